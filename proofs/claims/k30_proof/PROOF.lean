import PyProof.Rows.All
import Wide.All
import OpenK.AllK
import Wide.FinOn
import Lean
import PyProof.EqAt
import PyProof.EqKinds
import PyProof.TupleCall
import PySem.SetOps
import PyProof.Rows.SetFrom
import PyProof.CollectIter
import PyProof.WalksMore
import PyProof.FactsAll.subtypes_4
import PyProof.Rows.SortShell
import PyProof.FactsAll.set_1
import PyProof.FactsAll.set_2
import KE.KSortTup
import KE.KTryMore
import PyProof.ExcArgsOwn
import PyProof.ExcAttrAll.ValueError
import PyProof.StrLawsChain
import KE.LcSums
import KE.KRevSl
import PyProof.NeKinds
import PyProof.ListRange
import PyProof.TupleOfSeq
import KE.KIntText
import KE.IntTextLaws
import PyProof.StrCalls2
import PyProof.SliceStr2
import PyProof.Rows.FStr
import PyProof.Rows.StrSplitJoin
import PyProof.StrWalks
import PyProof.AutoSeq1
import PyProof.StrLawsTight
import PyProof.Rows.StrFacts2
import PyProof.Rows.StrSplitAre
import PySem.Challenge.RW_forcemark_k30_texts
set_option linter.all false
theorem _root_.au1 (h:0 = 0:=by rfl):True:=trivial
theorem _root_.au2 (h:0 = 0:=by decide):True:=trivial
theorem _root_.au3 (h:0 = 0:=by intro _; rfl):True:=trivial
theorem _root_.au4 (h:0 = 0:=by first | exact .inl rfl | exact .inr rfl | assumption):True:=trivial
theorem _root_.au5 (h:0 = 0:=by first | exact Or.inl rfl | exact Or.inr rfl):True:=trivial
theorem _root_.au6 (h:0 = 0:=by first | exact Or.inl rfl | exact Or.inr (Or.inl rfl) | exact Or.inr (Or.inr rfl)):True:=trivial
theorem _root_.au7 (h:0 = 0:=by with_unfolding_all rfl):True:=trivial
namespace DX
theorem x0_3 {p0 p1 p2:Prop} {r:Prop} (z:p0 ∧ p1 ∧ p2) (k:p0→p1→p2→r):r:=k z.1 z.2.1 z.2.2
theorem x0_4 {p0 p1 p2 p3:Prop} {r:Prop} (z:p0 ∧ p1 ∧ p2 ∧ p3) (k:p0→p1→p2→p3→r):r:=k z.1 z.2.1 z.2.2.1 z.2.2.2
theorem x0_5 {p0 p1 p2 p3 p4:Prop} {r:Prop} (z:p0 ∧ p1 ∧ p2 ∧ p3 ∧ p4) (k:p0→p1→p2→p3→p4→r):r:=k z.1 z.2.1 z.2.2.1 z.2.2.2.1 z.2.2.2.2
theorem x0_6 {p0 p1 p2 p3 p4 p5:Prop} {r:Prop} (z:p0 ∧ p1 ∧ p2 ∧ p3 ∧ p4 ∧ p5) (k:p0→p1→p2→p3→p4→p5→r):r:=k z.1 z.2.1 z.2.2.1 z.2.2.2.1 z.2.2.2.2.1 z.2.2.2.2.2
theorem x0_7 {p0 p1 p2 p3 p4 p5 p6:Prop} {r:Prop} (z:p0 ∧ p1 ∧ p2 ∧ p3 ∧ p4 ∧ p5 ∧ p6) (k:p0→p1→p2→p3→p4→p5→p6→r):r:=k z.1 z.2.1 z.2.2.1 z.2.2.2.1 z.2.2.2.2.1 z.2.2.2.2.2.1 z.2.2.2.2.2.2
theorem x0_8 {p0 p1 p2 p3 p4 p5 p6 p7:Prop} {r:Prop} (z:p0 ∧ p1 ∧ p2 ∧ p3 ∧ p4 ∧ p5 ∧ p6 ∧ p7) (k:p0→p1→p2→p3→p4→p5→p6→p7→r):r:=k z.1 z.2.1 z.2.2.1 z.2.2.2.1 z.2.2.2.2.1 z.2.2.2.2.2.1 z.2.2.2.2.2.2.1 z.2.2.2.2.2.2.2
theorem x0_9 {p0 p1 p2 p3 p4 p5 p6 p7 p8:Prop} {r:Prop} (z:p0 ∧ p1 ∧ p2 ∧ p3 ∧ p4 ∧ p5 ∧ p6 ∧ p7 ∧ p8) (k:p0→p1→p2→p3→p4→p5→p6→p7→p8→r):r:=k z.1 z.2.1 z.2.2.1 z.2.2.2.1 z.2.2.2.2.1 z.2.2.2.2.2.1 z.2.2.2.2.2.2.1 z.2.2.2.2.2.2.2.1 z.2.2.2.2.2.2.2.2
theorem x1_2 {α:Sort _} {p0 p1:α→Prop} {r:Prop} (z:∃ a,p0 a ∧ p1 a) (k:∀ a,p0 a→p1 a→r):r:=z.elim fun a z => k a z.1 z.2
theorem x1_3 {α:Sort _} {p0 p1 p2:α→Prop} {r:Prop} (z:∃ a,p0 a ∧ p1 a ∧ p2 a) (k:∀ a,p0 a→p1 a→p2 a→r):r:=z.elim fun a z => k a z.1 z.2.1 z.2.2
theorem x1_4 {α:Sort _} {p0 p1 p2 p3:α→Prop} {r:Prop} (z:∃ a,p0 a ∧ p1 a ∧ p2 a ∧ p3 a) (k:∀ a,p0 a→p1 a→p2 a→p3 a→r):r:=z.elim fun a z => k a z.1 z.2.1 z.2.2.1 z.2.2.2
theorem x1_5 {α:Sort _} {p0 p1 p2 p3 p4:α→Prop} {r:Prop} (z:∃ a,p0 a ∧ p1 a ∧ p2 a ∧ p3 a ∧ p4 a) (k:∀ a,p0 a→p1 a→p2 a→p3 a→p4 a→r):r:=z.elim fun a z => k a z.1 z.2.1 z.2.2.1 z.2.2.2.1 z.2.2.2.2
theorem x1_6 {α:Sort _} {p0 p1 p2 p3 p4 p5:α→Prop} {r:Prop} (z:∃ a,p0 a ∧ p1 a ∧ p2 a ∧ p3 a ∧ p4 a ∧ p5 a) (k:∀ a,p0 a→p1 a→p2 a→p3 a→p4 a→p5 a→r):r:=z.elim fun a z => k a z.1 z.2.1 z.2.2.1 z.2.2.2.1 z.2.2.2.2.1 z.2.2.2.2.2
theorem x1_7 {α:Sort _} {p0 p1 p2 p3 p4 p5 p6:α→Prop} {r:Prop} (z:∃ a,p0 a ∧ p1 a ∧ p2 a ∧ p3 a ∧ p4 a ∧ p5 a ∧ p6 a) (k:∀ a,p0 a→p1 a→p2 a→p3 a→p4 a→p5 a→p6 a→r):r:=z.elim fun a z => k a z.1 z.2.1 z.2.2.1 z.2.2.2.1 z.2.2.2.2.1 z.2.2.2.2.2.1 z.2.2.2.2.2.2
theorem x1_8 {α:Sort _} {p0 p1 p2 p3 p4 p5 p6 p7:α→Prop} {r:Prop} (z:∃ a,p0 a ∧ p1 a ∧ p2 a ∧ p3 a ∧ p4 a ∧ p5 a ∧ p6 a ∧ p7 a) (k:∀ a,p0 a→p1 a→p2 a→p3 a→p4 a→p5 a→p6 a→p7 a→r):r:=z.elim fun a z => k a z.1 z.2.1 z.2.2.1 z.2.2.2.1 z.2.2.2.2.1 z.2.2.2.2.2.1 z.2.2.2.2.2.2.1 z.2.2.2.2.2.2.2
theorem x1_9 {α:Sort _} {p0 p1 p2 p3 p4 p5 p6 p7 p8:α→Prop} {r:Prop} (z:∃ a,p0 a ∧ p1 a ∧ p2 a ∧ p3 a ∧ p4 a ∧ p5 a ∧ p6 a ∧ p7 a ∧ p8 a) (k:∀ a,p0 a→p1 a→p2 a→p3 a→p4 a→p5 a→p6 a→p7 a→p8 a→r):r:=z.elim fun a z => k a z.1 z.2.1 z.2.2.1 z.2.2.2.1 z.2.2.2.2.1 z.2.2.2.2.2.1 z.2.2.2.2.2.2.1 z.2.2.2.2.2.2.2.1 z.2.2.2.2.2.2.2.2
theorem x2_1 {α:Sort _} {β:Sort _} {p0:α→β→Prop} {r:Prop} (z:∃ a b,p0 a b) (k:∀ a b,p0 a b→r):r:=z.elim fun a z => z.elim fun b z => k a b z
theorem x2_2 {α:Sort _} {β:Sort _} {p0 p1:α→β→Prop} {r:Prop} (z:∃ a b,p0 a b ∧ p1 a b) (k:∀ a b,p0 a b→p1 a b→r):r:=z.elim fun a z => z.elim fun b z => k a b z.1 z.2
theorem x2_3 {α:Sort _} {β:Sort _} {p0 p1 p2:α→β→Prop} {r:Prop} (z:∃ a b,p0 a b ∧ p1 a b ∧ p2 a b) (k:∀ a b,p0 a b→p1 a b→p2 a b→r):r:=z.elim fun a z => z.elim fun b z => k a b z.1 z.2.1 z.2.2
theorem x2_4 {α:Sort _} {β:Sort _} {p0 p1 p2 p3:α→β→Prop} {r:Prop} (z:∃ a b,p0 a b ∧ p1 a b ∧ p2 a b ∧ p3 a b) (k:∀ a b,p0 a b→p1 a b→p2 a b→p3 a b→r):r:=z.elim fun a z => z.elim fun b z => k a b z.1 z.2.1 z.2.2.1 z.2.2.2
theorem x2_5 {α:Sort _} {β:Sort _} {p0 p1 p2 p3 p4:α→β→Prop} {r:Prop} (z:∃ a b,p0 a b ∧ p1 a b ∧ p2 a b ∧ p3 a b ∧ p4 a b) (k:∀ a b,p0 a b→p1 a b→p2 a b→p3 a b→p4 a b→r):r:=z.elim fun a z => z.elim fun b z => k a b z.1 z.2.1 z.2.2.1 z.2.2.2.1 z.2.2.2.2
theorem x2_6 {α:Sort _} {β:Sort _} {p0 p1 p2 p3 p4 p5:α→β→Prop} {r:Prop} (z:∃ a b,p0 a b ∧ p1 a b ∧ p2 a b ∧ p3 a b ∧ p4 a b ∧ p5 a b) (k:∀ a b,p0 a b→p1 a b→p2 a b→p3 a b→p4 a b→p5 a b→r):r:=z.elim fun a z => z.elim fun b z => k a b z.1 z.2.1 z.2.2.1 z.2.2.2.1 z.2.2.2.2.1 z.2.2.2.2.2
theorem x2_7 {α:Sort _} {β:Sort _} {p0 p1 p2 p3 p4 p5 p6:α→β→Prop} {r:Prop} (z:∃ a b,p0 a b ∧ p1 a b ∧ p2 a b ∧ p3 a b ∧ p4 a b ∧ p5 a b ∧ p6 a b) (k:∀ a b,p0 a b→p1 a b→p2 a b→p3 a b→p4 a b→p5 a b→p6 a b→r):r:=z.elim fun a z => z.elim fun b z => k a b z.1 z.2.1 z.2.2.1 z.2.2.2.1 z.2.2.2.2.1 z.2.2.2.2.2.1 z.2.2.2.2.2.2
theorem x2_8 {α:Sort _} {β:Sort _} {p0 p1 p2 p3 p4 p5 p6 p7:α→β→Prop} {r:Prop} (z:∃ a b,p0 a b ∧ p1 a b ∧ p2 a b ∧ p3 a b ∧ p4 a b ∧ p5 a b ∧ p6 a b ∧ p7 a b) (k:∀ a b,p0 a b→p1 a b→p2 a b→p3 a b→p4 a b→p5 a b→p6 a b→p7 a b→r):r:=z.elim fun a z => z.elim fun b z => k a b z.1 z.2.1 z.2.2.1 z.2.2.2.1 z.2.2.2.2.1 z.2.2.2.2.2.1 z.2.2.2.2.2.2.1 z.2.2.2.2.2.2.2
theorem x2_9 {α:Sort _} {β:Sort _} {p0 p1 p2 p3 p4 p5 p6 p7 p8:α→β→Prop} {r:Prop} (z:∃ a b,p0 a b ∧ p1 a b ∧ p2 a b ∧ p3 a b ∧ p4 a b ∧ p5 a b ∧ p6 a b ∧ p7 a b ∧ p8 a b) (k:∀ a b,p0 a b→p1 a b→p2 a b→p3 a b→p4 a b→p5 a b→p6 a b→p7 a b→p8 a b→r):r:=z.elim fun a z => z.elim fun b z => k a b z.1 z.2.1 z.2.2.1 z.2.2.2.1 z.2.2.2.2.1 z.2.2.2.2.2.1 z.2.2.2.2.2.2.1 z.2.2.2.2.2.2.2.1 z.2.2.2.2.2.2.2.2
theorem x3_1 {α:Sort _} {β:Sort _} {γ:Sort _} {p0:α→β→γ→Prop} {r:Prop} (z:∃ a b c,p0 a b c) (k:∀ a b c,p0 a b c→r):r:=z.elim fun a z => z.elim fun b z => z.elim fun c z => k a b c z
theorem x3_2 {α:Sort _} {β:Sort _} {γ:Sort _} {p0 p1:α→β→γ→Prop} {r:Prop} (z:∃ a b c,p0 a b c ∧ p1 a b c) (k:∀ a b c,p0 a b c→p1 a b c→r):r:=z.elim fun a z => z.elim fun b z => z.elim fun c z => k a b c z.1 z.2
theorem x3_3 {α:Sort _} {β:Sort _} {γ:Sort _} {p0 p1 p2:α→β→γ→Prop} {r:Prop} (z:∃ a b c,p0 a b c ∧ p1 a b c ∧ p2 a b c) (k:∀ a b c,p0 a b c→p1 a b c→p2 a b c→r):r:=z.elim fun a z => z.elim fun b z => z.elim fun c z => k a b c z.1 z.2.1 z.2.2
theorem x3_4 {α:Sort _} {β:Sort _} {γ:Sort _} {p0 p1 p2 p3:α→β→γ→Prop} {r:Prop} (z:∃ a b c,p0 a b c ∧ p1 a b c ∧ p2 a b c ∧ p3 a b c) (k:∀ a b c,p0 a b c→p1 a b c→p2 a b c→p3 a b c→r):r:=z.elim fun a z => z.elim fun b z => z.elim fun c z => k a b c z.1 z.2.1 z.2.2.1 z.2.2.2
theorem x3_5 {α:Sort _} {β:Sort _} {γ:Sort _} {p0 p1 p2 p3 p4:α→β→γ→Prop} {r:Prop} (z:∃ a b c,p0 a b c ∧ p1 a b c ∧ p2 a b c ∧ p3 a b c ∧ p4 a b c) (k:∀ a b c,p0 a b c→p1 a b c→p2 a b c→p3 a b c→p4 a b c→r):r:=z.elim fun a z => z.elim fun b z => z.elim fun c z => k a b c z.1 z.2.1 z.2.2.1 z.2.2.2.1 z.2.2.2.2
theorem x3_6 {α:Sort _} {β:Sort _} {γ:Sort _} {p0 p1 p2 p3 p4 p5:α→β→γ→Prop} {r:Prop} (z:∃ a b c,p0 a b c ∧ p1 a b c ∧ p2 a b c ∧ p3 a b c ∧ p4 a b c ∧ p5 a b c) (k:∀ a b c,p0 a b c→p1 a b c→p2 a b c→p3 a b c→p4 a b c→p5 a b c→r):r:=z.elim fun a z => z.elim fun b z => z.elim fun c z => k a b c z.1 z.2.1 z.2.2.1 z.2.2.2.1 z.2.2.2.2.1 z.2.2.2.2.2
theorem x3_7 {α:Sort _} {β:Sort _} {γ:Sort _} {p0 p1 p2 p3 p4 p5 p6:α→β→γ→Prop} {r:Prop} (z:∃ a b c,p0 a b c ∧ p1 a b c ∧ p2 a b c ∧ p3 a b c ∧ p4 a b c ∧ p5 a b c ∧ p6 a b c) (k:∀ a b c,p0 a b c→p1 a b c→p2 a b c→p3 a b c→p4 a b c→p5 a b c→p6 a b c→r):r:=z.elim fun a z => z.elim fun b z => z.elim fun c z => k a b c z.1 z.2.1 z.2.2.1 z.2.2.2.1 z.2.2.2.2.1 z.2.2.2.2.2.1 z.2.2.2.2.2.2
theorem x3_8 {α:Sort _} {β:Sort _} {γ:Sort _} {p0 p1 p2 p3 p4 p5 p6 p7:α→β→γ→Prop} {r:Prop} (z:∃ a b c,p0 a b c ∧ p1 a b c ∧ p2 a b c ∧ p3 a b c ∧ p4 a b c ∧ p5 a b c ∧ p6 a b c ∧ p7 a b c) (k:∀ a b c,p0 a b c→p1 a b c→p2 a b c→p3 a b c→p4 a b c→p5 a b c→p6 a b c→p7 a b c→r):r:=z.elim fun a z => z.elim fun b z => z.elim fun c z => k a b c z.1 z.2.1 z.2.2.1 z.2.2.2.1 z.2.2.2.2.1 z.2.2.2.2.2.1 z.2.2.2.2.2.2.1 z.2.2.2.2.2.2.2
theorem x3_9 {α:Sort _} {β:Sort _} {γ:Sort _} {p0 p1 p2 p3 p4 p5 p6 p7 p8:α→β→γ→Prop} {r:Prop} (z:∃ a b c,p0 a b c ∧ p1 a b c ∧ p2 a b c ∧ p3 a b c ∧ p4 a b c ∧ p5 a b c ∧ p6 a b c ∧ p7 a b c ∧ p8 a b c) (k:∀ a b c,p0 a b c→p1 a b c→p2 a b c→p3 a b c→p4 a b c→p5 a b c→p6 a b c→p7 a b c→p8 a b c→r):r:=z.elim fun a z => z.elim fun b z => z.elim fun c z => k a b c z.1 z.2.1 z.2.2.1 z.2.2.2.1 z.2.2.2.2.1 z.2.2.2.2.2.1 z.2.2.2.2.2.2.1 z.2.2.2.2.2.2.2.1 z.2.2.2.2.2.2.2.2
theorem x4_1 {α:Sort _} {β:Sort _} {γ:Sort _} {δ:Sort _} {p0:α→β→γ→δ→Prop} {r:Prop} (z:∃ a b c d,p0 a b c d) (k:∀ a b c d,p0 a b c d→r):r:=z.elim fun a z => z.elim fun b z => z.elim fun c z => z.elim fun d z => k a b c d z
theorem x4_2 {α:Sort _} {β:Sort _} {γ:Sort _} {δ:Sort _} {p0 p1:α→β→γ→δ→Prop} {r:Prop} (z:∃ a b c d,p0 a b c d ∧ p1 a b c d) (k:∀ a b c d,p0 a b c d→p1 a b c d→r):r:=z.elim fun a z => z.elim fun b z => z.elim fun c z => z.elim fun d z => k a b c d z.1 z.2
theorem x4_3 {α:Sort _} {β:Sort _} {γ:Sort _} {δ:Sort _} {p0 p1 p2:α→β→γ→δ→Prop} {r:Prop} (z:∃ a b c d,p0 a b c d ∧ p1 a b c d ∧ p2 a b c d) (k:∀ a b c d,p0 a b c d→p1 a b c d→p2 a b c d→r):r:=z.elim fun a z => z.elim fun b z => z.elim fun c z => z.elim fun d z => k a b c d z.1 z.2.1 z.2.2
theorem x4_4 {α:Sort _} {β:Sort _} {γ:Sort _} {δ:Sort _} {p0 p1 p2 p3:α→β→γ→δ→Prop} {r:Prop} (z:∃ a b c d,p0 a b c d ∧ p1 a b c d ∧ p2 a b c d ∧ p3 a b c d) (k:∀ a b c d,p0 a b c d→p1 a b c d→p2 a b c d→p3 a b c d→r):r:=z.elim fun a z => z.elim fun b z => z.elim fun c z => z.elim fun d z => k a b c d z.1 z.2.1 z.2.2.1 z.2.2.2
theorem x4_5 {α:Sort _} {β:Sort _} {γ:Sort _} {δ:Sort _} {p0 p1 p2 p3 p4:α→β→γ→δ→Prop} {r:Prop} (z:∃ a b c d,p0 a b c d ∧ p1 a b c d ∧ p2 a b c d ∧ p3 a b c d ∧ p4 a b c d) (k:∀ a b c d,p0 a b c d→p1 a b c d→p2 a b c d→p3 a b c d→p4 a b c d→r):r:=z.elim fun a z => z.elim fun b z => z.elim fun c z => z.elim fun d z => k a b c d z.1 z.2.1 z.2.2.1 z.2.2.2.1 z.2.2.2.2
theorem x4_6 {α:Sort _} {β:Sort _} {γ:Sort _} {δ:Sort _} {p0 p1 p2 p3 p4 p5:α→β→γ→δ→Prop} {r:Prop} (z:∃ a b c d,p0 a b c d ∧ p1 a b c d ∧ p2 a b c d ∧ p3 a b c d ∧ p4 a b c d ∧ p5 a b c d) (k:∀ a b c d,p0 a b c d→p1 a b c d→p2 a b c d→p3 a b c d→p4 a b c d→p5 a b c d→r):r:=z.elim fun a z => z.elim fun b z => z.elim fun c z => z.elim fun d z => k a b c d z.1 z.2.1 z.2.2.1 z.2.2.2.1 z.2.2.2.2.1 z.2.2.2.2.2
theorem x4_7 {α:Sort _} {β:Sort _} {γ:Sort _} {δ:Sort _} {p0 p1 p2 p3 p4 p5 p6:α→β→γ→δ→Prop} {r:Prop} (z:∃ a b c d,p0 a b c d ∧ p1 a b c d ∧ p2 a b c d ∧ p3 a b c d ∧ p4 a b c d ∧ p5 a b c d ∧ p6 a b c d) (k:∀ a b c d,p0 a b c d→p1 a b c d→p2 a b c d→p3 a b c d→p4 a b c d→p5 a b c d→p6 a b c d→r):r:=z.elim fun a z => z.elim fun b z => z.elim fun c z => z.elim fun d z => k a b c d z.1 z.2.1 z.2.2.1 z.2.2.2.1 z.2.2.2.2.1 z.2.2.2.2.2.1 z.2.2.2.2.2.2
theorem x4_8 {α:Sort _} {β:Sort _} {γ:Sort _} {δ:Sort _} {p0 p1 p2 p3 p4 p5 p6 p7:α→β→γ→δ→Prop} {r:Prop} (z:∃ a b c d,p0 a b c d ∧ p1 a b c d ∧ p2 a b c d ∧ p3 a b c d ∧ p4 a b c d ∧ p5 a b c d ∧ p6 a b c d ∧ p7 a b c d) (k:∀ a b c d,p0 a b c d→p1 a b c d→p2 a b c d→p3 a b c d→p4 a b c d→p5 a b c d→p6 a b c d→p7 a b c d→r):r:=z.elim fun a z => z.elim fun b z => z.elim fun c z => z.elim fun d z => k a b c d z.1 z.2.1 z.2.2.1 z.2.2.2.1 z.2.2.2.2.1 z.2.2.2.2.2.1 z.2.2.2.2.2.2.1 z.2.2.2.2.2.2.2
theorem x4_9 {α:Sort _} {β:Sort _} {γ:Sort _} {δ:Sort _} {p0 p1 p2 p3 p4 p5 p6 p7 p8:α→β→γ→δ→Prop} {r:Prop} (z:∃ a b c d,p0 a b c d ∧ p1 a b c d ∧ p2 a b c d ∧ p3 a b c d ∧ p4 a b c d ∧ p5 a b c d ∧ p6 a b c d ∧ p7 a b c d ∧ p8 a b c d) (k:∀ a b c d,p0 a b c d→p1 a b c d→p2 a b c d→p3 a b c d→p4 a b c d→p5 a b c d→p6 a b c d→p7 a b c d→p8 a b c d→r):r:=z.elim fun a z => z.elim fun b z => z.elim fun c z => z.elim fun d z => k a b c d z.1 z.2.1 z.2.2.1 z.2.2.2.1 z.2.2.2.2.1 z.2.2.2.2.2.1 z.2.2.2.2.2.2.1 z.2.2.2.2.2.2.2.1 z.2.2.2.2.2.2.2.2
theorem x5_1 {α:Sort _} {β:Sort _} {γ:Sort _} {δ:Sort _} {ε:Sort _} {p0:α→β→γ→δ→ε→Prop} {r:Prop} (z:∃ a b c d e,p0 a b c d e) (k:∀ a b c d e,p0 a b c d e→r):r:=z.elim fun a z => z.elim fun b z => z.elim fun c z => z.elim fun d z => z.elim fun e z => k a b c d e z
theorem x5_2 {α:Sort _} {β:Sort _} {γ:Sort _} {δ:Sort _} {ε:Sort _} {p0 p1:α→β→γ→δ→ε→Prop} {r:Prop} (z:∃ a b c d e,p0 a b c d e ∧ p1 a b c d e) (k:∀ a b c d e,p0 a b c d e→p1 a b c d e→r):r:=z.elim fun a z => z.elim fun b z => z.elim fun c z => z.elim fun d z => z.elim fun e z => k a b c d e z.1 z.2
theorem x5_3 {α:Sort _} {β:Sort _} {γ:Sort _} {δ:Sort _} {ε:Sort _} {p0 p1 p2:α→β→γ→δ→ε→Prop} {r:Prop} (z:∃ a b c d e,p0 a b c d e ∧ p1 a b c d e ∧ p2 a b c d e) (k:∀ a b c d e,p0 a b c d e→p1 a b c d e→p2 a b c d e→r):r:=z.elim fun a z => z.elim fun b z => z.elim fun c z => z.elim fun d z => z.elim fun e z => k a b c d e z.1 z.2.1 z.2.2
theorem x5_4 {α:Sort _} {β:Sort _} {γ:Sort _} {δ:Sort _} {ε:Sort _} {p0 p1 p2 p3:α→β→γ→δ→ε→Prop} {r:Prop} (z:∃ a b c d e,p0 a b c d e ∧ p1 a b c d e ∧ p2 a b c d e ∧ p3 a b c d e) (k:∀ a b c d e,p0 a b c d e→p1 a b c d e→p2 a b c d e→p3 a b c d e→r):r:=z.elim fun a z => z.elim fun b z => z.elim fun c z => z.elim fun d z => z.elim fun e z => k a b c d e z.1 z.2.1 z.2.2.1 z.2.2.2
theorem x5_5 {α:Sort _} {β:Sort _} {γ:Sort _} {δ:Sort _} {ε:Sort _} {p0 p1 p2 p3 p4:α→β→γ→δ→ε→Prop} {r:Prop} (z:∃ a b c d e,p0 a b c d e ∧ p1 a b c d e ∧ p2 a b c d e ∧ p3 a b c d e ∧ p4 a b c d e) (k:∀ a b c d e,p0 a b c d e→p1 a b c d e→p2 a b c d e→p3 a b c d e→p4 a b c d e→r):r:=z.elim fun a z => z.elim fun b z => z.elim fun c z => z.elim fun d z => z.elim fun e z => k a b c d e z.1 z.2.1 z.2.2.1 z.2.2.2.1 z.2.2.2.2
theorem x5_6 {α:Sort _} {β:Sort _} {γ:Sort _} {δ:Sort _} {ε:Sort _} {p0 p1 p2 p3 p4 p5:α→β→γ→δ→ε→Prop} {r:Prop} (z:∃ a b c d e,p0 a b c d e ∧ p1 a b c d e ∧ p2 a b c d e ∧ p3 a b c d e ∧ p4 a b c d e ∧ p5 a b c d e) (k:∀ a b c d e,p0 a b c d e→p1 a b c d e→p2 a b c d e→p3 a b c d e→p4 a b c d e→p5 a b c d e→r):r:=z.elim fun a z => z.elim fun b z => z.elim fun c z => z.elim fun d z => z.elim fun e z => k a b c d e z.1 z.2.1 z.2.2.1 z.2.2.2.1 z.2.2.2.2.1 z.2.2.2.2.2
theorem x5_7 {α:Sort _} {β:Sort _} {γ:Sort _} {δ:Sort _} {ε:Sort _} {p0 p1 p2 p3 p4 p5 p6:α→β→γ→δ→ε→Prop} {r:Prop} (z:∃ a b c d e,p0 a b c d e ∧ p1 a b c d e ∧ p2 a b c d e ∧ p3 a b c d e ∧ p4 a b c d e ∧ p5 a b c d e ∧ p6 a b c d e) (k:∀ a b c d e,p0 a b c d e→p1 a b c d e→p2 a b c d e→p3 a b c d e→p4 a b c d e→p5 a b c d e→p6 a b c d e→r):r:=z.elim fun a z => z.elim fun b z => z.elim fun c z => z.elim fun d z => z.elim fun e z => k a b c d e z.1 z.2.1 z.2.2.1 z.2.2.2.1 z.2.2.2.2.1 z.2.2.2.2.2.1 z.2.2.2.2.2.2
theorem x5_8 {α:Sort _} {β:Sort _} {γ:Sort _} {δ:Sort _} {ε:Sort _} {p0 p1 p2 p3 p4 p5 p6 p7:α→β→γ→δ→ε→Prop} {r:Prop} (z:∃ a b c d e,p0 a b c d e ∧ p1 a b c d e ∧ p2 a b c d e ∧ p3 a b c d e ∧ p4 a b c d e ∧ p5 a b c d e ∧ p6 a b c d e ∧ p7 a b c d e) (k:∀ a b c d e,p0 a b c d e→p1 a b c d e→p2 a b c d e→p3 a b c d e→p4 a b c d e→p5 a b c d e→p6 a b c d e→p7 a b c d e→r):r:=z.elim fun a z => z.elim fun b z => z.elim fun c z => z.elim fun d z => z.elim fun e z => k a b c d e z.1 z.2.1 z.2.2.1 z.2.2.2.1 z.2.2.2.2.1 z.2.2.2.2.2.1 z.2.2.2.2.2.2.1 z.2.2.2.2.2.2.2
theorem x5_9 {α:Sort _} {β:Sort _} {γ:Sort _} {δ:Sort _} {ε:Sort _} {p0 p1 p2 p3 p4 p5 p6 p7 p8:α→β→γ→δ→ε→Prop} {r:Prop} (z:∃ a b c d e,p0 a b c d e ∧ p1 a b c d e ∧ p2 a b c d e ∧ p3 a b c d e ∧ p4 a b c d e ∧ p5 a b c d e ∧ p6 a b c d e ∧ p7 a b c d e ∧ p8 a b c d e) (k:∀ a b c d e,p0 a b c d e→p1 a b c d e→p2 a b c d e→p3 a b c d e→p4 a b c d e→p5 a b c d e→p6 a b c d e→p7 a b c d e→p8 a b c d e→r):r:=z.elim fun a z => z.elim fun b z => z.elim fun c z => z.elim fun d z => z.elim fun e z => k a b c d e z.1 z.2.1 z.2.2.1 z.2.2.2.1 z.2.2.2.2.1 z.2.2.2.2.2.1 z.2.2.2.2.2.2.1 z.2.2.2.2.2.2.2.1 z.2.2.2.2.2.2.2.2
theorem x6_1 {α:Sort _} {β:Sort _} {γ:Sort _} {δ:Sort _} {ε:Sort _} {ζ:Sort _} {p0:α→β→γ→δ→ε→ζ→Prop} {r:Prop} (z:∃ a b c d e f,p0 a b c d e f) (k:∀ a b c d e f,p0 a b c d e f→r):r:=z.elim fun a z => z.elim fun b z => z.elim fun c z => z.elim fun d z => z.elim fun e z => z.elim fun f z => k a b c d e f z
theorem x6_2 {α:Sort _} {β:Sort _} {γ:Sort _} {δ:Sort _} {ε:Sort _} {ζ:Sort _} {p0 p1:α→β→γ→δ→ε→ζ→Prop} {r:Prop} (z:∃ a b c d e f,p0 a b c d e f ∧ p1 a b c d e f) (k:∀ a b c d e f,p0 a b c d e f→p1 a b c d e f→r):r:=z.elim fun a z => z.elim fun b z => z.elim fun c z => z.elim fun d z => z.elim fun e z => z.elim fun f z => k a b c d e f z.1 z.2
theorem x6_3 {α:Sort _} {β:Sort _} {γ:Sort _} {δ:Sort _} {ε:Sort _} {ζ:Sort _} {p0 p1 p2:α→β→γ→δ→ε→ζ→Prop} {r:Prop} (z:∃ a b c d e f,p0 a b c d e f ∧ p1 a b c d e f ∧ p2 a b c d e f) (k:∀ a b c d e f,p0 a b c d e f→p1 a b c d e f→p2 a b c d e f→r):r:=z.elim fun a z => z.elim fun b z => z.elim fun c z => z.elim fun d z => z.elim fun e z => z.elim fun f z => k a b c d e f z.1 z.2.1 z.2.2
theorem x6_4 {α:Sort _} {β:Sort _} {γ:Sort _} {δ:Sort _} {ε:Sort _} {ζ:Sort _} {p0 p1 p2 p3:α→β→γ→δ→ε→ζ→Prop} {r:Prop} (z:∃ a b c d e f,p0 a b c d e f ∧ p1 a b c d e f ∧ p2 a b c d e f ∧ p3 a b c d e f) (k:∀ a b c d e f,p0 a b c d e f→p1 a b c d e f→p2 a b c d e f→p3 a b c d e f→r):r:=z.elim fun a z => z.elim fun b z => z.elim fun c z => z.elim fun d z => z.elim fun e z => z.elim fun f z => k a b c d e f z.1 z.2.1 z.2.2.1 z.2.2.2
theorem x6_5 {α:Sort _} {β:Sort _} {γ:Sort _} {δ:Sort _} {ε:Sort _} {ζ:Sort _} {p0 p1 p2 p3 p4:α→β→γ→δ→ε→ζ→Prop} {r:Prop} (z:∃ a b c d e f,p0 a b c d e f ∧ p1 a b c d e f ∧ p2 a b c d e f ∧ p3 a b c d e f ∧ p4 a b c d e f) (k:∀ a b c d e f,p0 a b c d e f→p1 a b c d e f→p2 a b c d e f→p3 a b c d e f→p4 a b c d e f→r):r:=z.elim fun a z => z.elim fun b z => z.elim fun c z => z.elim fun d z => z.elim fun e z => z.elim fun f z => k a b c d e f z.1 z.2.1 z.2.2.1 z.2.2.2.1 z.2.2.2.2
theorem x6_6 {α:Sort _} {β:Sort _} {γ:Sort _} {δ:Sort _} {ε:Sort _} {ζ:Sort _} {p0 p1 p2 p3 p4 p5:α→β→γ→δ→ε→ζ→Prop} {r:Prop} (z:∃ a b c d e f,p0 a b c d e f ∧ p1 a b c d e f ∧ p2 a b c d e f ∧ p3 a b c d e f ∧ p4 a b c d e f ∧ p5 a b c d e f) (k:∀ a b c d e f,p0 a b c d e f→p1 a b c d e f→p2 a b c d e f→p3 a b c d e f→p4 a b c d e f→p5 a b c d e f→r):r:=z.elim fun a z => z.elim fun b z => z.elim fun c z => z.elim fun d z => z.elim fun e z => z.elim fun f z => k a b c d e f z.1 z.2.1 z.2.2.1 z.2.2.2.1 z.2.2.2.2.1 z.2.2.2.2.2
theorem x6_7 {α:Sort _} {β:Sort _} {γ:Sort _} {δ:Sort _} {ε:Sort _} {ζ:Sort _} {p0 p1 p2 p3 p4 p5 p6:α→β→γ→δ→ε→ζ→Prop} {r:Prop} (z:∃ a b c d e f,p0 a b c d e f ∧ p1 a b c d e f ∧ p2 a b c d e f ∧ p3 a b c d e f ∧ p4 a b c d e f ∧ p5 a b c d e f ∧ p6 a b c d e f) (k:∀ a b c d e f,p0 a b c d e f→p1 a b c d e f→p2 a b c d e f→p3 a b c d e f→p4 a b c d e f→p5 a b c d e f→p6 a b c d e f→r):r:=z.elim fun a z => z.elim fun b z => z.elim fun c z => z.elim fun d z => z.elim fun e z => z.elim fun f z => k a b c d e f z.1 z.2.1 z.2.2.1 z.2.2.2.1 z.2.2.2.2.1 z.2.2.2.2.2.1 z.2.2.2.2.2.2
theorem x6_8 {α:Sort _} {β:Sort _} {γ:Sort _} {δ:Sort _} {ε:Sort _} {ζ:Sort _} {p0 p1 p2 p3 p4 p5 p6 p7:α→β→γ→δ→ε→ζ→Prop} {r:Prop} (z:∃ a b c d e f,p0 a b c d e f ∧ p1 a b c d e f ∧ p2 a b c d e f ∧ p3 a b c d e f ∧ p4 a b c d e f ∧ p5 a b c d e f ∧ p6 a b c d e f ∧ p7 a b c d e f) (k:∀ a b c d e f,p0 a b c d e f→p1 a b c d e f→p2 a b c d e f→p3 a b c d e f→p4 a b c d e f→p5 a b c d e f→p6 a b c d e f→p7 a b c d e f→r):r:=z.elim fun a z => z.elim fun b z => z.elim fun c z => z.elim fun d z => z.elim fun e z => z.elim fun f z => k a b c d e f z.1 z.2.1 z.2.2.1 z.2.2.2.1 z.2.2.2.2.1 z.2.2.2.2.2.1 z.2.2.2.2.2.2.1 z.2.2.2.2.2.2.2
theorem x6_9 {α:Sort _} {β:Sort _} {γ:Sort _} {δ:Sort _} {ε:Sort _} {ζ:Sort _} {p0 p1 p2 p3 p4 p5 p6 p7 p8:α→β→γ→δ→ε→ζ→Prop} {r:Prop} (z:∃ a b c d e f,p0 a b c d e f ∧ p1 a b c d e f ∧ p2 a b c d e f ∧ p3 a b c d e f ∧ p4 a b c d e f ∧ p5 a b c d e f ∧ p6 a b c d e f ∧ p7 a b c d e f ∧ p8 a b c d e f) (k:∀ a b c d e f,p0 a b c d e f→p1 a b c d e f→p2 a b c d e f→p3 a b c d e f→p4 a b c d e f→p5 a b c d e f→p6 a b c d e f→p7 a b c d e f→p8 a b c d e f→r):r:=z.elim fun a z => z.elim fun b z => z.elim fun c z => z.elim fun d z => z.elim fun e z => z.elim fun f z => k a b c d e f z.1 z.2.1 z.2.2.1 z.2.2.2.1 z.2.2.2.2.1 z.2.2.2.2.2.1 z.2.2.2.2.2.2.1 z.2.2.2.2.2.2.2.1 z.2.2.2.2.2.2.2.2
theorem x7_1 {α:Sort _} {β:Sort _} {γ:Sort _} {δ:Sort _} {ε:Sort _} {ζ:Sort _} {η:Sort _} {p0:α→β→γ→δ→ε→ζ→η→Prop} {r:Prop} (z:∃ a b c d e f g,p0 a b c d e f g) (k:∀ a b c d e f g,p0 a b c d e f g→r):r:=z.elim fun a z => z.elim fun b z => z.elim fun c z => z.elim fun d z => z.elim fun e z => z.elim fun f z => z.elim fun g z => k a b c d e f g z
theorem x7_2 {α:Sort _} {β:Sort _} {γ:Sort _} {δ:Sort _} {ε:Sort _} {ζ:Sort _} {η:Sort _} {p0 p1:α→β→γ→δ→ε→ζ→η→Prop} {r:Prop} (z:∃ a b c d e f g,p0 a b c d e f g ∧ p1 a b c d e f g) (k:∀ a b c d e f g,p0 a b c d e f g→p1 a b c d e f g→r):r:=z.elim fun a z => z.elim fun b z => z.elim fun c z => z.elim fun d z => z.elim fun e z => z.elim fun f z => z.elim fun g z => k a b c d e f g z.1 z.2
theorem x7_3 {α:Sort _} {β:Sort _} {γ:Sort _} {δ:Sort _} {ε:Sort _} {ζ:Sort _} {η:Sort _} {p0 p1 p2:α→β→γ→δ→ε→ζ→η→Prop} {r:Prop} (z:∃ a b c d e f g,p0 a b c d e f g ∧ p1 a b c d e f g ∧ p2 a b c d e f g) (k:∀ a b c d e f g,p0 a b c d e f g→p1 a b c d e f g→p2 a b c d e f g→r):r:=z.elim fun a z => z.elim fun b z => z.elim fun c z => z.elim fun d z => z.elim fun e z => z.elim fun f z => z.elim fun g z => k a b c d e f g z.1 z.2.1 z.2.2
theorem x7_4 {α:Sort _} {β:Sort _} {γ:Sort _} {δ:Sort _} {ε:Sort _} {ζ:Sort _} {η:Sort _} {p0 p1 p2 p3:α→β→γ→δ→ε→ζ→η→Prop} {r:Prop} (z:∃ a b c d e f g,p0 a b c d e f g ∧ p1 a b c d e f g ∧ p2 a b c d e f g ∧ p3 a b c d e f g) (k:∀ a b c d e f g,p0 a b c d e f g→p1 a b c d e f g→p2 a b c d e f g→p3 a b c d e f g→r):r:=z.elim fun a z => z.elim fun b z => z.elim fun c z => z.elim fun d z => z.elim fun e z => z.elim fun f z => z.elim fun g z => k a b c d e f g z.1 z.2.1 z.2.2.1 z.2.2.2
theorem x7_5 {α:Sort _} {β:Sort _} {γ:Sort _} {δ:Sort _} {ε:Sort _} {ζ:Sort _} {η:Sort _} {p0 p1 p2 p3 p4:α→β→γ→δ→ε→ζ→η→Prop} {r:Prop} (z:∃ a b c d e f g,p0 a b c d e f g ∧ p1 a b c d e f g ∧ p2 a b c d e f g ∧ p3 a b c d e f g ∧ p4 a b c d e f g) (k:∀ a b c d e f g,p0 a b c d e f g→p1 a b c d e f g→p2 a b c d e f g→p3 a b c d e f g→p4 a b c d e f g→r):r:=z.elim fun a z => z.elim fun b z => z.elim fun c z => z.elim fun d z => z.elim fun e z => z.elim fun f z => z.elim fun g z => k a b c d e f g z.1 z.2.1 z.2.2.1 z.2.2.2.1 z.2.2.2.2
theorem x7_6 {α:Sort _} {β:Sort _} {γ:Sort _} {δ:Sort _} {ε:Sort _} {ζ:Sort _} {η:Sort _} {p0 p1 p2 p3 p4 p5:α→β→γ→δ→ε→ζ→η→Prop} {r:Prop} (z:∃ a b c d e f g,p0 a b c d e f g ∧ p1 a b c d e f g ∧ p2 a b c d e f g ∧ p3 a b c d e f g ∧ p4 a b c d e f g ∧ p5 a b c d e f g) (k:∀ a b c d e f g,p0 a b c d e f g→p1 a b c d e f g→p2 a b c d e f g→p3 a b c d e f g→p4 a b c d e f g→p5 a b c d e f g→r):r:=z.elim fun a z => z.elim fun b z => z.elim fun c z => z.elim fun d z => z.elim fun e z => z.elim fun f z => z.elim fun g z => k a b c d e f g z.1 z.2.1 z.2.2.1 z.2.2.2.1 z.2.2.2.2.1 z.2.2.2.2.2
theorem x7_7 {α:Sort _} {β:Sort _} {γ:Sort _} {δ:Sort _} {ε:Sort _} {ζ:Sort _} {η:Sort _} {p0 p1 p2 p3 p4 p5 p6:α→β→γ→δ→ε→ζ→η→Prop} {r:Prop} (z:∃ a b c d e f g,p0 a b c d e f g ∧ p1 a b c d e f g ∧ p2 a b c d e f g ∧ p3 a b c d e f g ∧ p4 a b c d e f g ∧ p5 a b c d e f g ∧ p6 a b c d e f g) (k:∀ a b c d e f g,p0 a b c d e f g→p1 a b c d e f g→p2 a b c d e f g→p3 a b c d e f g→p4 a b c d e f g→p5 a b c d e f g→p6 a b c d e f g→r):r:=z.elim fun a z => z.elim fun b z => z.elim fun c z => z.elim fun d z => z.elim fun e z => z.elim fun f z => z.elim fun g z => k a b c d e f g z.1 z.2.1 z.2.2.1 z.2.2.2.1 z.2.2.2.2.1 z.2.2.2.2.2.1 z.2.2.2.2.2.2
theorem x7_8 {α:Sort _} {β:Sort _} {γ:Sort _} {δ:Sort _} {ε:Sort _} {ζ:Sort _} {η:Sort _} {p0 p1 p2 p3 p4 p5 p6 p7:α→β→γ→δ→ε→ζ→η→Prop} {r:Prop} (z:∃ a b c d e f g,p0 a b c d e f g ∧ p1 a b c d e f g ∧ p2 a b c d e f g ∧ p3 a b c d e f g ∧ p4 a b c d e f g ∧ p5 a b c d e f g ∧ p6 a b c d e f g ∧ p7 a b c d e f g) (k:∀ a b c d e f g,p0 a b c d e f g→p1 a b c d e f g→p2 a b c d e f g→p3 a b c d e f g→p4 a b c d e f g→p5 a b c d e f g→p6 a b c d e f g→p7 a b c d e f g→r):r:=z.elim fun a z => z.elim fun b z => z.elim fun c z => z.elim fun d z => z.elim fun e z => z.elim fun f z => z.elim fun g z => k a b c d e f g z.1 z.2.1 z.2.2.1 z.2.2.2.1 z.2.2.2.2.1 z.2.2.2.2.2.1 z.2.2.2.2.2.2.1 z.2.2.2.2.2.2.2
theorem x7_9 {α:Sort _} {β:Sort _} {γ:Sort _} {δ:Sort _} {ε:Sort _} {ζ:Sort _} {η:Sort _} {p0 p1 p2 p3 p4 p5 p6 p7 p8:α→β→γ→δ→ε→ζ→η→Prop} {r:Prop} (z:∃ a b c d e f g,p0 a b c d e f g ∧ p1 a b c d e f g ∧ p2 a b c d e f g ∧ p3 a b c d e f g ∧ p4 a b c d e f g ∧ p5 a b c d e f g ∧ p6 a b c d e f g ∧ p7 a b c d e f g ∧ p8 a b c d e f g) (k:∀ a b c d e f g,p0 a b c d e f g→p1 a b c d e f g→p2 a b c d e f g→p3 a b c d e f g→p4 a b c d e f g→p5 a b c d e f g→p6 a b c d e f g→p7 a b c d e f g→p8 a b c d e f g→r):r:=z.elim fun a z => z.elim fun b z => z.elim fun c z => z.elim fun d z => z.elim fun e z => z.elim fun f z => z.elim fun g z => k a b c d e f g z.1 z.2.1 z.2.2.1 z.2.2.2.1 z.2.2.2.2.1 z.2.2.2.2.2.1 z.2.2.2.2.2.2.1 z.2.2.2.2.2.2.2.1 z.2.2.2.2.2.2.2.2
end DX
set_option Elab.async false
set_option maxRecDepth 100000
namespace L2
open PySem PySem.Spec PyProof.Rows
noncomputable abbrev Key:=Sum Int Str
noncomputable def za7_:Key→Value→Bool
 | .inl k,v => Value.isInt k v
 | .inr x,v => Value.isStrOf x v
noncomputable def keyH (w:World):Key→Int
 | .inl k => hashInt k
 | .inr x => hashStr w x
theorem jc_:∀ {k:Key} {v:Value},za7_ k v = true→(∃ i t,k = Sum.inl i ∧ v = Value.int i t) ∨ (∃ x t,k = Sum.inr x ∧ v = Value.str x t)
 | .inl i,v,h => by
   obtain ⟨t,e⟩:=Value.isInt_shape (k:=i) (v:=v) h
   exact .inl ⟨i,t,rfl,e⟩
 | .inr x,v,h => by
   obtain ⟨t,e⟩:=Value.isStrOf_shape (x:=x) (v:=v) h
   exact .inr ⟨x,t,rfl,e⟩
theorem ya7_ (a b:Int):decide ((Sum.inl a:Key) = Sum.inl b) = (a == b):=by
 by_cases e:a = b
 · subst e; simp
 · have h:¬ (Sum.inl a:Key) = Sum.inl b:=fun q => e (Sum.inl.inj q)
   rw [decide_eq_false h]
   exact (beq_eq_false_iff_ne.mpr e).symm
theorem xa7_ (a b:Str):decide ((Sum.inr a:Key) = Sum.inr b) = decide (a = b):=by
 by_cases e:a = b
 · subst e; simp
 · have h:¬ (Sum.inr a:Key) = Sum.inr b:=fun q => e (Sum.inr.inj q)
   rw [decide_eq_false h,decide_eq_false e]
theorem wa7_ (a:Int) (b:Str):decide ((Sum.inl a:Key) = Sum.inr b) = false:=decide_eq_false (fun q => nomatch q)
theorem ja7_ (a:Str) (b:Int):decide ((Sum.inr a:Key) = Sum.inl b) = false:=decide_eq_false (fun q => nomatch q)
noncomputable def v5_ (prog:Program) (w:World):PySem.KeyKind prog w Key where
 is:=za7_
 hash:=keyH w
 inj:=fun v a b ha hb => by
   rcases jc_ ha with ⟨i,t,rfl,rfl⟩ | ⟨x,t,rfl,rfl⟩
   · rcases jc_ hb with ⟨j,u,rfl,e⟩ | ⟨y,u,rfl,e⟩
     · injection e with e1 _; rw [e1]
     · exact nomatch e
   · rcases jc_ hb with ⟨j,u,rfl,e⟩ | ⟨y,u,rfl,e⟩
     · exact nomatch e
     · injection e with e1 _; rw [e1]
 byValue:=fun k v h => by
   rcases jc_ h with ⟨i,t,rfl,rfl⟩ | ⟨x,t,rfl,rfl⟩ <;> rfl
 pyHash:=fun hv h => by
   rcases jc_ hv with ⟨i,t,rfl,rfl⟩ | ⟨x,t,rfl,rfl⟩
   · exact wpAny_pyHash_int h
   · exact wpAny_pyHash_str h
 eqBool:=fun hu hv h => by
   rcases jc_ hu with ⟨i,t,rfl,rfl⟩ | ⟨x,t,rfl,rfl⟩
   · rcases jc_ hv with ⟨j,u,rfl,rfl⟩ | ⟨y,u,rfl,rfl⟩
     · rw [ya7_] at h; exact wpAny_eqBool_int h
     · rw [wa7_] at h; exact SeqAt.EqAt.int_str i t y u _ _ _ _ h
   · rcases jc_ hv with ⟨j,u,rfl,rfl⟩ | ⟨y,u,rfl,rfl⟩
     · rw [ja7_] at h; exact SeqAt.EqAt.str_int x t j u _ _ _ _ h
     · rw [xa7_] at h; exact wpAny_eqBool_str h
 «strs»:=fun k x t v h => by
   rcases jc_ h with ⟨i,u,rfl,e⟩ | ⟨y,u,rfl,e⟩
   · exact nomatch e
   · injection e with e1 _
     subst e1
     cases v <;> rfl
end L2
namespace L2
open PySem PySem.Spec PyProof.Rows
inductive V where
 | non | bl (b:Bool) | int (i:Int) | str (x:Str) | byt (b:Array UInt8) | flt (b:UInt64) | ref (a:Addr) | ty (n:String)
 deriving DecidableEq
noncomputable def RelV:V→Value→Prop
 | .non,u => u = Value.none
 | .bl b,u => u = Value.bool b
 | .int i,u => ∃ t,u = Value.int i t
 | .str x,u => ∃ t,u = Value.str x t
 | .byt b,u => ∃ t,u = Value.bytes b t
 | .flt b,u => ∃ t,u = Value.float b t
 | .ref a,u => u = Value.ref a
 | .ty n,u => u = Value.type n
noncomputable abbrev Vals:List V→List Value→Prop:=Paired RelV
theorem Vals.length {xs:List V} {us:List Value} (r:Vals xs us):xs.length = us.length:=Paired.length r
theorem Vals.get:∀ {xs:List V} {us:List Value} {i:Nat} {x:V},Vals xs us→xs[i]? = some x→∃ u,us[i]? = some u ∧ RelV x u
 | _,_,_,_,.nil,e => by simp at e
 | _,_,0,_,.cons r _,e => by simp at e; subst e; exact ⟨_,rfl,r⟩
 | _,_,i + 1,x,.cons _ t,e => by
   (refine DX.x1_2 (Vals.get (i:=i) (x:=x) t (by simpa using e)) ?_; rintro u h1 h2)
   exact ⟨u,by simpa using h1,h2⟩
theorem Vals.append:∀ {xs ys:List V} {us ws:List Value},Vals xs us→Vals ys ws→Vals (xs ++ ys) (us ++ ws)
 | _,_,_,_,.nil,s => s
 | _,_,_,_,.cons r t,s => .cons r (Vals.append t s)
theorem Vals.take:∀ {xs:List V} {us:List Value} (n:Nat),Vals xs us→Vals (xs.take n) (us.take n)
 | _,_,0,_ => .nil
 | _,_,_ + 1,.nil => .nil
 | _,_,n + 1,.cons r t => .cons r (Vals.take n t)
theorem Vals.drop:∀ {xs:List V} {us:List Value} (n:Nat),Vals xs us→Vals (xs.drop n) (us.drop n)
 | _,_,0,r => r
 | _,_,_ + 1,.nil => .nil
 | _,_,n + 1,.cons _ t => Vals.drop n t
noncomputable def RelO:Option V→Option Value→Prop
 | some v,some u => RelV v u
 | none,none => True
 | _,_ => False
noncomputable def KV {κ:Type}:List (κ × V)→List (κ × Value)→Prop:=Paired fun (p:κ × V) (q:κ × Value) => p.1 = q.1 ∧ RelV p.2 q.2
noncomputable def kV:Key→V
 | .inl i => .int i
 | .inr x => .str x
set_option genInjectivity false in
inductive HO where
 | lst (xs:List V)
 | tup (xs:List V)
 | dK (kvs:List (Key × V)) | dT (kvs:List (List Key × V))
 | set (S:Int→Bool) (n:Nat)
 | ins (C dx:Addr) (fs:List (Str × V))
 | own (x:Addr)
 | xd (fs:List (Str × V))
 | met (f x:Addr)
 | rng (lo hi:Int)
 | frz (o:Obj) (u:HO)
 | tbl (ps:Array Value)
 | ext (φ:Heap→Prop)
noncomputable abbrev Hp:=Addr→Option HO
noncomputable def upd (H:Hp) (a:Addr) (o:HO):Hp:=fun b => if b = a then some o else H b
theorem yb_ {H:Hp} {a:Addr} {o:HO}:upd H a o a = some o:=by unfold upd; rw [if_pos rfl]
theorem zb_ {H:Hp} {a b:Addr} {o:HO} (h:b ≠ a):upd H a o b = H b:=by unfold upd; rw [if_neg h]
theorem wb_ {H:Hp} {a b:Addr} {o:HO} (h:H a = some o) (h':H b = none):a ≠ b:=by
 intro e; subst e; rw [h] at h'; cases h'
section
variable (P:Program) (w:World)
noncomputable def vm_ (H:Hp) (h:Heap) (a:Addr):HO→Prop
 | .lst xs => xs.length ≤ sizeLine ∧ ∃ (its:List Value) (n:Nat),Vals xs its ∧ h.get? a = some { cls:=.type "list",data:=.seq its.toArray n }
 | .tup xs => xs.length ≤ sizeLine ∧ ∃ its:List Value,Vals xs its ∧ IsTup h a its.toArray
 | .dK kvs => kvs.length ≤ sizeLine ∧ (a == sysModules) = false ∧ ∃ vs,KV kvs vs ∧ h.DictOf (v5_ P w) a vs
 | .dT kvs => kvs.length ≤ sizeLine ∧ (a == sysModules) = false ∧ ∃ xs:List (List Key × Addr × Value),
     Paired (fun (p:List Key × V) (q:List Key × Addr × Value) => p.1 = q.1 ∧ H q.2.1 = some (.tup (p.1.map kV)) ∧ RelV p.2 q.2.2) kvs xs ∧
     ∃ o es ep,h.get? a = some o ∧ o.ExactDict ∧ o.data = .dict es ep ∧ es.toList = xs.map (entryOfKey (tupleKind (v5_ P w))) ∧ (xs.map (·.1)).Nodup
 | .set S n => h.SetOf (intKind P w) a S n
 | .ins C dx fs => H dx = some (.own a) ∧ fs.length ≤ 1000 ∧ dx ≠ a ∧ h.get? a = some (PySem.W.instObj C dx) ∧
     ∃ mA,h.Ns1 dx mA ∧ (∀ f,RelO (fs.lookup f) (mA f)) ∧ PySem.Within mA (fs.map (·.1))
 | .own _ => ∃ o,h.get? a = some o
 | .xd fs => ∃ mA,h.Ns1 a mA ∧ ∀ f,RelO (fs.lookup f) (mA f)
 | .rng lo hi => ∃ t u v,h.get? a = some { cls:=.type "range",data:=.fields #[.int lo t,.int hi u,.int 1 v] }
 | .frz o u => h.get? a = some o ∧ vm_ H h a u
 | .tbl ps => h.get? a = some { cls:=.none,data:=.fields ps }
 | .met f x => h.get? a = some (PySem.W.methodObj (.ref f) (.ref x))
 | .ext φ => φ h ∧ (∃ o,h.get? a = some o) ∧ ∀ h1 h2:Heap,φ h1→(∀ o,h1.get? a = some o→h2.get? a = some o)→φ h2
noncomputable def HOk (H:Hp) (h:Heap):Prop:=∀ a o,H a = some o→vm_ P w H h a o
end
section
variable {P:Program} {w:World} {H H':Hp} {h h':Heap} {a:Addr} {o:HO}
theorem vm_.lt (x:vm_ P w H h a o):a < h.objs.size:=by
 cases o with
 | lst xs => obtain ⟨_,_,_,_,e⟩:=x; exact Heap.lt_size e
 | tup xs => obtain ⟨_,_,_,p⟩:=x; exact p.lt
 | dK kvs => obtain ⟨_,_,_,_,o,_,_,e,_⟩:=x; exact Heap.lt_size e
 | dT kvs => obtain ⟨_,_,_,_,o,_,_,e,_⟩:=x; exact Heap.lt_size e
 | set S n => (refine DX.x4_2 x ?_; try clear x; rintro o _ _ _ e _); exact Heap.lt_size e
 | ins C dx fs => (refine DX.x0_5 x ?_; try clear x; rintro _ _ _ e _); exact Heap.lt_size e
 | own y => obtain ⟨_,e⟩:=x; exact Heap.lt_size e
 | xd fs => (refine DX.x1_2 x ?_; try clear x; rintro _ ⟨_,_,_,e,_⟩ _); exact Heap.lt_size e
 | rng lo hi => (refine DX.x3_1 x ?_; try clear x; rintro _ _ _ e); exact Heap.lt_size e
 | frz ob u => obtain ⟨e,_⟩:=x; exact Heap.lt_size e
 | tbl ps => exact Heap.lt_size (show h.get? a = some _ from x)
 | met f y => exact Heap.lt_size (show h.get? a = some _ from x)
 | ext φ => (refine DX.x0_3 x ?_; try clear x; rintro _ ⟨_,e⟩ _); exact Heap.lt_size e
theorem Paired.mapP {α β:Type} {F G:α→β→Prop}:∀ {l₁:List α} {l₂:List β},Paired F l₁ l₂→(∀ a b,F a b→G a b)→Paired G l₁ l₂
 | _,_,.nil,_ => .nil
 | _,_,.cons r t,f => .cons (f _ _ r) (Paired.mapP t f)
theorem vm_.stay (x:vm_ P w H h a o) (k:∀ b u,(b = a ∨ H b = some (.own a))→h.get? b = some u→h'.get? b = some u)
   (ho:∀ b,H b = some (.own a)→H' b = some (.own a)) (ht:∀ b xs,H b = some (.tup xs)→H' b = some (.tup xs)):vm_ P w H' h' a o:=by
 induction o with
 | lst xs => obtain ⟨z,its,n,r,e⟩:=x; exact ⟨z,its,n,r,k _ _ (.inl rfl) e⟩
 | tup xs => obtain ⟨z,its,r,ob,e,c⟩:=x; exact ⟨z,its,r,ob,k _ _ (.inl rfl) e,c⟩
 | dK kvs => obtain ⟨z,y,vs,r,ob,es,ep,e,c⟩:=x; exact ⟨z,y,vs,r,ob,es,ep,k _ _ (.inl rfl) e,c⟩
 | dT kvs =>
   obtain ⟨z,y,xs,r,ob,es,ep,e,c⟩:=x
   exact ⟨z,y,xs,Paired.mapP r fun p q z => ⟨z.1,ht _ _ z.2.1,z.2.2⟩,ob,es,ep,k _ _ (.inl rfl) e,c⟩
 | set S n => (refine DX.x4_2 x ?_; try clear x; rintro ob es ep t e c); exact ⟨ob,es,ep,t,k _ _ (.inl rfl) e,c⟩
 | ins C dx fs =>
   obtain ⟨d,z,ne,e,mA,⟨od,es,ep,e2,c⟩,r⟩:=x
   exact ⟨ho _ d,z,ne,k _ _ (.inl rfl) e,mA,⟨od,es,ep,k _ _ (.inr d) e2,c⟩,r⟩
 | own y => obtain ⟨ob,e⟩:=x; exact ⟨ob,k _ _ (.inl rfl) e⟩
 | xd fs => (refine DX.x1_2 x ?_; try clear x; rintro mA ⟨od,es,ep,e,c⟩ r); exact ⟨mA,⟨od,es,ep,k _ _ (.inl rfl) e,c⟩,r⟩
 | rng lo hi => (refine DX.x3_1 x ?_; try clear x; rintro t u v e); exact ⟨t,u,v,k _ _ (.inl rfl) e⟩
 | frz ob u ih => obtain ⟨e,q⟩:=x; exact ⟨k _ _ (.inl rfl) e,ih q⟩
 | tbl ps =>
   have e:h.get? a = some { cls:=.none,data:=.fields ps }:=x
   show h'.get? a = some { cls:=.none,data:=.fields ps }
   exact k a _ (.inl rfl) e
 | met f y =>
   have e:h.get? a = some (PySem.W.methodObj (.ref f) (.ref y)):=x
   show h'.get? a = some (PySem.W.methodObj (.ref f) (.ref y))
   exact k a _ (.inl rfl) e
 | ext φ => (refine DX.x0_3 x ?_; try clear x; rintro p ⟨o,e⟩ st); exact ⟨st _ _ p fun o q => k _ _ (.inl rfl) q,⟨o,k _ _ (.inl rfl) e⟩,st⟩
theorem HOk.lt (x:HOk P w H h) (e:H a = some o):a < h.objs.size:=(x a o e).lt
theorem HOk.fresh (x:HOk P w H h) (e:h.objs.size ≤ a):H a = none:=by
 cases q:H a with
 | none => rfl
 | some u => exact absurd (Nat.lt_of_lt_of_le (x.lt q) e) (Nat.lt_irrefl _)
theorem HOk.kept (x:HOk P w H h) (k:∀ b u,h.get? b = some u→h'.get? b = some u):HOk P w H h':=fun a o e =>
 (x a o e).stay (fun b u _ q => k b u q) (fun _ q => q) fun _ _ q => q
theorem HOk.laid (x:HOk P w H h) (k:∀ b u,h.get? b = some u→h'.get? b = some u) (hp:h.objs.size ≤ a) (new:vm_ P w (upd H a o) h' a o):HOk P w (upd H a o) h':=fun b u e => by
 have hn:=x.fresh hp
 by_cases hb:b = a
 · subst hb; rw [yb_] at e; cases e; exact new
 · rw [zb_ hb] at e
   exact (x b u e).stay (fun c v _ q => k c v q) (fun c q => by rw [zb_ (wb_ q hn)]; exact q) fun c xs q => by rw [zb_ (wb_ q hn)]; exact q
end
noncomputable def Rd (H:Hp) (a:Addr) (u:HO):Prop:=H a = some u ∨ ∃ o,H a = some (.frz o u)
theorem Rd.ok {P:Program} {w:World} {H:Hp} {h:Heap} {a:Addr} {u:HO} (r:Rd H a u) (x:HOk P w H h):vm_ P w H h a u:=by
 rcases r with r | ⟨o,r⟩
 · exact x a u r
 · obtain ⟨_,q⟩:=x a _ r
   exact q
noncomputable def Mut:Option HO→Prop
 | some (.lst _) => True
 | some (.dK _) => True
 | some (.dT _) => True
 | some (.set _ _) => True
 | some (.ins _ _ _) => True
 | some (.ext _) => True
 | _ => False
section
variable {P:Program} {w:World} {H:Hp} {h h':Heap} {x e:Addr} {o':HO}
theorem HOk.write (ok:HOk P w H h) (mu:Mut (H x)) (he:e = x ∨ H e = some (.own x)) (k:∀ b u,b ≠ e→h.get? b = some u→h'.get? b = some u) (heo:∃ u,h'.get? e = some u)
   (new:vm_ P w (upd H x o') h' x o'):HOk P w (upd H x o') h':=fun b u q => by
 have nown:∀ c y,H c = some (.own y)→c ≠ x:=fun c y r z => by subst z; rw [r] at mu; exact mu
 have ntup:∀ c xs,H c = some (.tup xs)→c ≠ x:=fun c xs r z => by subst z; rw [r] at mu; exact mu
 by_cases hb:b = x
 · subst hb; rw [yb_] at q; cases q; exact new
 · rw [zb_ hb] at q
   by_cases hbe:b = e
   · have q':H b = some (.own x):=by
       rcases he with z | z
       · exact absurd (hbe.trans z) hb
       · rw [hbe]; exact z
     rw [q] at q'; cases q'
     obtain ⟨v,hv⟩:=heo
     exact ⟨v,by rw [hbe]; exact hv⟩
   · refine (ok b u q).stay (fun c v hc r => k c v ?_ r) (fun c r => by rw [zb_ (nown c b r)]; exact r) fun c xs r => by rw [zb_ (ntup c xs r)]; exact r
     rcases hc with rfl | hc
     · exact hbe
     · rintro rfl
       rcases he with z | z
       · exact nown c b hc z
       · rw [hc] at z; cases z; exact hb rfl
end
structure Un (fs ex:List Addr) (H H':Hp) (h h':Heap):Prop where
 keep:∀ b o,h.get? b = some o→H b = none→b ∉ fs→b ∉ ex→h'.get? b = some o
 slot:∀ b o,h.get? b = some o→H b = none→b ∈ fs→b ∉ ex→∃ sl,h'.get? b = some { o with slots:=sl }
 free:∀ b o,h.get? b = some o→H b = none→b ∉ ex→H' b = none
 there:∀ b o,h.get? b = some o→b ∉ ex→∃ o',h'.get? b = some o'
 tups:∀ b xs,H b = some (.tup xs)→H' b = some (.tup xs)
 frzs:∀ b o u,H b = some (.frz o u)→H' b = some (.frz o u)
 tbls:∀ b ps,H b = some (.tbl ps)→∃ more,H' b = some (.tbl (ps ++ more))
section
variable {fs fs' ex ex':List Addr} {H H1 H2:Hp} {h h1 h2 h':Heap} {a x e:Addr} {o:HO}
theorem Un.any (u:Un fs ex H H1 h h1) {b:Addr} {ob:Obj} (q:h.get? b = some ob) (n:H b = none) (hx:b ∉ ex):∃ sl,h1.get? b = some { ob with slots:=sl }:=by
 by_cases hb:b ∈ fs
 · exact u.slot b ob q n hb hx
 · exact ⟨ob.slots,u.keep b ob q n hb hx⟩
theorem Un.trans (a:Un fs ex H H1 h h1) (b:Un fs ex H1 H2 h1 h2):Un fs ex H H2 h h2 where
 keep:=fun c ob q n hc hx => b.keep c ob (a.keep c ob q n hc hx) (a.free c ob q n hx) hc hx
 slot:=fun c ob q n hc hx => by
   obtain ⟨sl,e1⟩:=a.slot c ob q n hc hx
   obtain ⟨sl',e2⟩:=b.slot c _ e1 (a.free c ob q n hx) hc hx
   exact ⟨sl',e2⟩
 free:=fun c ob q n hx => by
   obtain ⟨o',e1⟩:=a.there c ob q hx
   exact b.free c o' e1 (a.free c ob q n hx) hx
 there:=fun c ob q hx => by
   obtain ⟨o',e1⟩:=a.there c ob q hx
   exact b.there c o' e1 hx
 tups:=fun c xs q => b.tups c xs (a.tups c xs q)
 frzs:=fun c ob xs q => b.frzs c ob xs (a.frzs c ob xs q)
 tbls:=fun c ps q => by
   obtain ⟨m1,e1⟩:=a.tbls c ps q
   obtain ⟨m2,e2⟩:=b.tbls c _ e1
   exact ⟨m1 ++ m2,by rw [e2,Array.append_assoc]⟩
theorem Un.kept (k:∀ b u,h.get? b = some u→h'.get? b = some u):Un fs ex H H h h' :=
 ⟨fun b ob q _ _ _ => k b ob q,fun b ob q _ _ _ => ⟨ob.slots,k b ob q⟩,fun _ _ _ n _ => n,fun b ob q _ => ⟨ob,k b ob q⟩,fun _ _ q => q,fun _ _ _ q => q,fun _ ps q => ⟨#[],by rw [q]; simp⟩⟩
theorem Un.refl:Un fs ex H H h h:=Un.kept fun _ _ q => q
theorem Un.laid (k:∀ b u,h.get? b = some u→h'.get? b = some u) (hp:h.objs.size ≤ a) (hn:H a = none):Un fs ex H (upd H a o) h h' where
 keep:=fun b u q _ _ _ => k b u q
 slot:=fun b u q _ _ _ => ⟨u.slots,k b u q⟩
 free:=fun b u q n _ => by rw [zb_ (Nat.ne_of_lt (Nat.lt_of_lt_of_le (Heap.lt_size q) hp))]; exact n
 there:=fun b u q _ => ⟨u,k b u q⟩
 tups:=fun b xs q => by rw [zb_ (wb_ q hn)]; exact q
 frzs:=fun b u xs q => by rw [zb_ (wb_ q hn)]; exact q
 tbls:=fun b ps q => ⟨#[],by rw [zb_ (wb_ q hn),q]; simp⟩
theorem Un.write (mu:Mut (H x)) (he:e = x ∨ H e = some (.own x)) (k:∀ b u,b ≠ e→h.get? b = some u→h'.get? b = some u) (heo:∃ u,h'.get? e = some u):Un fs ex H (upd H x o) h h':=by
 have hx:∀ b,H b = none→b ≠ x:=fun b n z => by subst z; rw [n] at mu; exact mu
 have hb:∀ b,H b = none→b ≠ e:=fun b n z => by
   subst z
   rcases he with r | r
   · exact hx b n r
   · rw [n] at r; cases r
 have hm:∀ b u,H b = some u→¬ Mut (some u)→b ≠ x:=fun b u q nm z => by subst z; rw [q] at mu; exact nm mu
 refine ⟨fun b u q n _ _ => k b u (hb b n) q,fun b u q n _ _ => ⟨u.slots,k b u (hb b n) q⟩,fun b u q n _ => by rw [zb_ (hx b n)]; exact n,fun b u q _ => ?_,
   fun b xs q => by rw [zb_ (hm b _ q fun z => z)]; exact q,fun b u xs q => by rw [zb_ (hm b _ q fun z => z)]; exact q,fun b ps q => ⟨#[],by rw [zb_ (hm b _ q fun z => z),q]; simp⟩⟩
 by_cases hbe:b = e
 · subst hbe; exact heo
 · exact ⟨u,k b u hbe q⟩
end
noncomputable def trk (h:Heap) (H:Hp):List Addr:=(List.range h.objs.size).filter fun a => (H a).isSome
noncomputable def hidT (h:Heap) (H:Hp):Heap:=PySem.W.hideAll h (trk h H)
theorem zag_ (h:Heap) (H:Hp):(hidT h H).objs.size = h.objs.size:=PySem.W.hideAll_size _ _
theorem uao_ {h:Heap} {H:Hp} {b:Addr} {o:Obj} (e:h.get? b = some o) (n:H b = none):(hidT h H).get? b = some o :=
 PySem.W.hideAll_get _ e fun hm => by
   have q:(H b).isSome = true:=(List.mem_filter.mp hm).2
   rw [n] at q; simp at q
theorem jay_ {h:Heap} {H:Hp} {b:Addr} {o:Obj} (e:(hidT h H).get? b = some o):h.get? b = some o ∧ H b = none:=by
 have e':h.get? b = some o:=PySem.W.of_hideAll (trk h H) e
 refine ⟨e',?_⟩
 cases q:H b with
 | none => rfl
 | some x =>
   have hm:b ∈ trk h H:=List.mem_filter.mpr ⟨List.mem_range.mpr (Heap.lt_size e'),by simp [q]⟩
   have z:(hidT h H).get? b = none:=PySem.W.hideAll_none (trk h H) hm
   rw [z] at e; cases e
end L2
namespace L2
open PySem PySem.Spec PyProof.Rows
structure Mod (K:PySem.W.Frag) (mg:Str→Option Value) (base:Heap):Prop where
 kin:K.In base
 glob:base.Ns mainGlobals mg
 blt:∃ mb,base.Ns builtinsNs mb ∧ ∀ x:Str,x ≠ "__name__"→mb x = bootBuiltins x
 nolimit:base.NoLimit
set_option genInjectivity false in
structure Cx where
 prog:Program
 w:World
 K:PySem.W.Frag
 mg:Str→Option Value
 base:Heap
 A:Around
 N:List Str
 s₀:Shared
 H₀:Hp
 env:Env
 outer:List Env
 stack:List Env
 ex:List Addr
 fn:Str→Bool
 calm:Bool
 pn:List (Addr × Obj)
 xe:Value→Shared→Prop
noncomputable def frs (l:List Env):List Addr:=l.filterMap (·.frame)
noncomputable abbrev Cx.fs (X:Cx):List Addr:=frs X.outer
noncomputable def Vis (sc:Scope) (x:Str):Prop:=sc.names.lookup x = some .local ∨ sc.names.lookup x = some .cell ∨ sc.names.lookup x = some .free
noncomputable def Loc (sc:Scope) (x:Str):Prop:=sc.names.lookup x = some .local ∨ sc.names.lookup x = some .cell
noncomputable def Look (env:Env) (h:Heap) (m:Str→Option Value) (x:Str) (u:Value):Prop :=
 (env.kindOf x = some .local ∧ m x = some u) ∨ ((env.kindOf x = some .cell ∨ env.kindOf x = some .free) ∧ ∃ c,env.cells.lookup x = some c ∧ h.IsCell c (some u))
set_option genInjectivity false in
structure Cx.Ok (X:Cx):Prop where
 mod:Mod X.K X.mg X.base
 kind:X.env.scope.kind = .function
 glob:X.env.globals = mainGlobals
 blt:X.env.builtins = builtinsNs
 above:X.s₀.heap.objs.size ≤ X.env.locals
 inj:∀ x y c,X.env.cells.lookup x = some c→X.env.cells.lookup y = some c→x = y
 has:∀ x,(X.env.kindOf x = some .cell ∨ X.env.kindOf x = some .free)→∃ c,X.env.cells.lookup x = some c
 cab:∀ x c,X.fn x = true→X.env.cells.lookup x = some c→X.s₀.heap.objs.size ≤ c
 hd:X.calm = true→X.A.handled = none
 frames:X.A.frames = some X.stack
 stk:X.stack = X.outer ∨ (X.stack = X.env :: X.outer ∧ X.env.frame = some X.env.locals)
 exf:∀ b ∈ X.ex,b ≠ X.env.locals ∧ ∀ x c,X.env.cells.lookup x = some c→c ≠ b
 bs:∀ b o,X.base.get? b = some o→X.s₀.heap.get? b = some o ∧ X.H₀ b = none
 bsz:X.base.objs.size ≤ X.s₀.heap.objs.size
 noex:∀ b o,X.base.get? b = some o→b ∉ X.ex
 exfs:∀ b ∈ X.ex,b ∉ X.fs
 funs:X.s₀.heap.FunFrames X.base X.outer
 frf:∀ b ∈ X.fs,X.H₀ b = none
structure Inv (X:Cx) (pins:List (Addr × Obj)) (σ:List (Option V)) (H:Hp) (s:Shared):Prop where
 ok:X.Ok
 os:s.os = X.s₀.os
 bare:AllBare s.gens
 base:Un X.fs X.ex X.H₀ H X.s₀.heap s.heap
 loc:∃ m,s.heap.Ns X.env.locals m ∧ ∀ (i:Nat) (x:Str) (v:V),X.N[i]? = some x→σ[i]? = some (some v)→Vis X.env.scope x→∃ u,RelV v u ∧ Look X.env s.heap m x u
 cell:∀ x c,X.env.cells.lookup x = some c→∃ v,s.heap.IsCell c v
 free:H X.env.locals = none
 freeC:∀ x c,X.env.cells.lookup x = some c→H c = none
 pin:∀ p ∈ X.pn ++ pins,s.heap.get? p.1 = some p.2 ∧ H p.1 = none ∧ p.1 ≠ X.env.locals ∧ p.1 ∉ X.fs ∧ ∀ v,p.2.data ≠ .cell v
 hok:HOk X.prog X.w H s.heap
 len:σ.length = X.N.length
section
variable {X:Cx} {pins:List (Addr × Obj)} {σ:List (Option V)} {H H':Hp} {s:Shared} {h':Heap}
theorem Cx.Ok.nofr (ok:X.Ok) {b:Addr} {o:Obj} (e:X.base.get? b = some o):b ∉ X.fs:=fun hb => by
 have:=(ok.funs.mem hb).1
 rw [e] at this; cases this
theorem Inv.bs (I:Inv X pins σ H s):∀ b o,X.base.get? b = some o→s.heap.get? b = some o ∧ H b = none:=fun b o e =>
 ⟨I.base.keep b o (I.ok.bs b o e).1 (I.ok.bs b o e).2 (I.ok.nofr e) (I.ok.noex b o e),I.base.free b o (I.ok.bs b o e).1 (I.ok.bs b o e).2 (I.ok.noex b o e)⟩
theorem Inv.bk (I:Inv X pins σ H s):∀ b o,X.base.get? b = some o→s.heap.get? b = some o:=fun b o e => (I.bs b o e).1
theorem Inv.mod (I:Inv X pins σ H s):Mod X.K X.mg X.base:=I.ok.mod
theorem Inv.kIn (I:Inv X pins σ H s):X.K.In s.heap:=I.ok.mod.kin.keeps I.bk
theorem Inv.lt (I:Inv X pins σ H s):X.env.locals < s.heap.objs.size:=let ⟨_,hn,_⟩:=I.loc; hn.lt
theorem Inv.sz (I:Inv X pins σ H s):X.s₀.heap.objs.size ≤ s.heap.objs.size:=Nat.le_trans I.ok.above (Nat.le_of_lt I.lt)
theorem Inv.nofs (I:Inv X pins σ H s) {a:Addr} (h:s.heap.objs.size ≤ a):a ∉ X.fs:=fun hb => by
 obtain ⟨_,o,ho,_⟩:=I.ok.funs.mem hb
 exact absurd (Nat.lt_of_lt_of_le (Heap.lt_size ho) (Nat.le_trans I.sz h)) (Nat.lt_irrefl _)
theorem Inv.cne (I:Inv X pins σ H s):∀ x c,X.env.cells.lookup x = some c→c ≠ X.env.locals:=fun x c e z => by
 (refine DX.x2_2 (I.cell x c e) ?_; rintro v o ho hd)
 (refine DX.x1_2 I.loc ?_; rintro m ⟨o',es,ep,ho',hd',_⟩ _)
 rw [z,ho'] at ho; cases ho; rw [hd'] at hd; cases hd
theorem Inv.funs (I:Inv X pins σ H s):s.heap.FunFrames X.base X.outer:=by
 have all:∀ (l:List Env),(∀ b ∈ frs l,b ∈ X.fs)→X.s₀.heap.FunFrames X.base l→s.heap.FunFrames X.base l:=by
   intro l
   induction l with
   | nil => intro _ _; trivial
   | cons env r ih =>
     intro hs hl
     (refine DX.x0_3 hl ?_; try clear hl; rintro hk ⟨L,o,hf,hn,ho,hd⟩ hr)
     have hL:L ∈ X.fs:=hs L (by unfold frs; rw [List.filterMap_cons,hf]; exact List.mem_cons_self)
     obtain ⟨sl,e⟩:=I.base.slot L o ho (I.ok.frf L hL) hL fun z => I.ok.exfs L z hL
     exact ⟨hk,⟨L,_,hf,hn,e,hd⟩,ih (fun b hb => hs b (by unfold frs; rw [List.filterMap_cons,hf]; exact List.mem_cons_of_mem _ hb)) hr⟩
 exact all X.outer (fun _ hb => hb) I.ok.funs
theorem Inv.stack (I:Inv X pins σ H s):s.heap.FunFrames X.base X.stack:=by
 rcases I.ok.stk with e | ⟨e,hf⟩
 · rw [e]; exact I.funs
 · rw [e]
   (refine DX.x1_2 I.loc ?_; rintro m hn _)
   refine .cons (by rw [I.ok.kind]; decide) hf hn ?_ I.funs
   exact Heap.get?_none_of_le (Nat.le_trans I.ok.bsz I.ok.above)
theorem Inv.stkSub (I:Inv X pins σ H s):∀ b ∈ frs X.stack,b ∈ X.env.locals :: X.fs:=fun b hb => by
 rcases I.ok.stk with e | ⟨e,hf⟩
 · rw [e] at hb; exact List.mem_cons_of_mem _ hb
 · rw [e] at hb
   unfold frs at hb
   rw [List.filterMap_cons,hf] at hb
   exact hb
theorem Inv.stkFree (I:Inv X pins σ H s):∀ b ∈ frs X.stack,H b = none:=fun b hb => by
 rcases List.mem_cons.mp (I.stkSub b hb) with e | hb
 · rw [e]; exact I.free
 · obtain ⟨_,o,ho,_⟩:=I.ok.funs.mem hb
   exact I.base.free b o ho (I.ok.frf b hb) fun z => I.ok.exfs b z hb
theorem Inv.step {g':Array GenState} {t':Nat} {d':Drawn} {ch:List Addr} (I:Inv X pins σ H s)
   (hch:∀ b ∈ ch,(b ∈ X.ex ∨ X.s₀.heap.objs.size ≤ b) ∧ b ≠ X.env.locals ∧ (∀ x c,X.env.cells.lookup x = some c→c ≠ b) ∧ ∀ p ∈ X.pn ++ pins,p.1 ≠ b)
   (keep:∀ b o,b ≠ X.env.locals→b ∉ X.fs→b ∉ ch→s.heap.get? b = some o→H b = none→h'.get? b = some o)
   (slot:∀ b o,b ≠ X.env.locals→b ∈ X.fs→b ∉ ch→s.heap.get? b = some o→H b = none→∃ sl,h'.get? b = some { o with slots:=sl }) (free:∀ b o,b ∉ ch→s.heap.get? b = some o→H b = none→H' b = none)
   (there:∀ b o,b ∉ ch→s.heap.get? b = some o→∃ o',h'.get? b = some o')
   (tups:∀ b xs,H b = some (.tup xs)→H' b = some (.tup xs)) (frzs:∀ b o u,H b = some (.frz o u)→H' b = some (.frz o u)) (tbls:∀ b ps,H b = some (.tbl ps)→∃ more,H' b = some (.tbl (ps ++ more)))
   (ns:∀ m,s.heap.Ns X.env.locals m→h'.Ns X.env.locals m) (hok:HOk X.prog X.w H' h') (hg:AllBare g') :
   Inv X pins σ H' { s with heap:=h',gens:=g',drawn:=d',toks:=t' }:=by
 have neL:∀ b o,X.s₀.heap.get? b = some o→b ≠ X.env.locals:=fun b o e => Nat.ne_of_lt (Nat.lt_of_lt_of_le (Heap.lt_size e) I.ok.above)
 have neC:∀ b o,X.s₀.heap.get? b = some o→b ∉ X.ex→b ∉ ch:=fun b o e hx hb => by
   rcases (hch b hb).1 with z | z
   · exact hx z
   · exact absurd (Nat.lt_of_lt_of_le (Heap.lt_size e) z) (Nat.lt_irrefl _)
 have cellK:∀ x c,X.env.cells.lookup x = some c→∀ v,s.heap.IsCell c v→h'.IsCell c v:=fun x c e v ⟨o,ho,hd⟩ => by
   have nch:c ∉ ch:=fun z => (hch c z).2.2.1 x c e rfl
   by_cases hc:c ∈ X.fs
   · obtain ⟨sl,q⟩:=slot c o (I.cne x c e) hc nch ho (I.freeC x c e)
     exact ⟨_,q,hd⟩
   · exact ⟨o,keep c o (I.cne x c e) hc nch ho (I.freeC x c e),hd⟩
 refine ⟨I.ok,I.os,hg,⟨fun b o e n hb hx => ?_,fun b o e n hb hx => ?_,fun b o e n hx => ?_,fun b o e hx => ?_,fun b xs e => tups b xs (I.base.tups b xs e),fun b o xs e => frzs b o xs (I.base.frzs b o xs e),fun b ps e => ?_⟩,?_,fun x c e => ?_,?_,fun x c e => ?_,fun p hp => ?_,hok,I.len⟩
 · exact keep b o (neL b o e) hb (neC b o e hx) (I.base.keep b o e n hb hx) (I.base.free b o e n hx)
 · obtain ⟨sl,e1⟩:=I.base.slot b o e n hb hx
   obtain ⟨sl',e2⟩:=slot b _ (neL b o e) hb (neC b o e hx) e1 (I.base.free b o e n hx)
   exact ⟨sl',e2⟩
 · obtain ⟨o',e1⟩:=I.base.there b o e hx
   exact free b o' (neC b o e hx) e1 (I.base.free b o e n hx)
 · obtain ⟨o',e1⟩:=I.base.there b o e hx
   exact there b o' (neC b o e hx) e1
 · obtain ⟨m1,e1⟩:=I.base.tbls b ps e
   obtain ⟨m2,e2⟩:=tbls b _ e1
   exact ⟨m1 ++ m2,by rw [e2,Array.append_assoc]⟩
 · (refine DX.x1_2 I.loc ?_; rintro m hn hl)
   refine ⟨m,ns m hn,fun i x v e1 e2 e3 => ?_⟩
   (refine DX.x1_2 (hl i x v e1 e2 e3) ?_; rintro u r l)
   refine ⟨u,r,?_⟩
   rcases l with l | ⟨k,c,e,z⟩
   · exact .inl l
   · exact .inr ⟨k,c,e,cellK x c e _ z⟩
 · obtain ⟨v,z⟩:=I.cell x c e
   exact ⟨v,cellK x c e v z⟩
 · (refine DX.x1_2 I.loc ?_; rintro m ⟨o,_,_,ho,_⟩ _)
   exact free _ o (fun z => (hch _ z).2.1 rfl) ho I.free
 · (refine DX.x2_2 (I.cell x c e) ?_; rintro v o ho hd)
   exact free c o (fun z => (hch c z).2.2.1 x c e rfl) ho (I.freeC x c e)
 · (refine DX.x0_5 (I.pin p hp) ?_; rintro e n ne nf d)
   have nch:p.1 ∉ ch:=fun z => (hch p.1 z).2.2.2 p hp rfl
   exact ⟨keep p.1 p.2 ne nf nch e n,free p.1 p.2 nch e n,ne,nf,d⟩
theorem Inv.un {t':Nat} (I:Inv X pins σ H s) (u:Un X.fs [] H H' s.heap h') (hok:HOk X.prog X.w H' h'):Inv X pins σ H' { s with heap:=h',toks:=t' }:=by
 (refine DX.x1_2 (id I.loc) ?_; rintro m ⟨o,es,ep,ho,r⟩ _)
 obtain ⟨sl,hL⟩:=u.any ho I.free (by simp)
 exact I.step (g':=s.gens) (d':=s.drawn) (ch:=[]) (fun _ z => nomatch z) (fun b o _ hb _ e n => u.keep b o e n hb (by simp)) (fun b o _ hb _ e n => u.slot b o e n hb (by simp)) (fun b o _ e n => u.free b o e n (by simp)) (fun b o _ e => u.there b o e (by simp)) u.tups u.frzs u.tbls (fun m' hm => by
   (refine DX.x3_2 hm ?_; try clear hm; rintro o' es' ep' ho' r')
   rw [ho] at ho'; cases ho'
   exact ⟨_,es',ep',hL,r'⟩) hok I.bare
theorem Inv.call {g':Array GenState} {t':Nat} {d':Drawn} {ch:List Addr} (I:Inv X pins σ H s) (u:Un (frs X.stack) ch H H' s.heap h') (hok:HOk X.prog X.w H' h') (hg:AllBare g')
   (hch:∀ b ∈ ch,(b ∈ X.ex ∨ X.s₀.heap.objs.size ≤ b) ∧ b ≠ X.env.locals ∧ (∀ x c,X.env.cells.lookup x = some c→c ≠ b) ∧ ∀ p ∈ X.pn ++ pins,p.1 ≠ b) :
   Inv X pins σ H' { s with heap:=h',gens:=g',drawn:=d',toks:=t' }:=by
 (refine DX.x1_2 (id I.loc) ?_; rintro m ⟨o,es,ep,ho,r⟩ _)
 obtain ⟨sl,hL⟩:=u.any ho I.free fun z => (hch _ z).2.1 rfl
 exact I.step (ch:=ch) hch (fun b o hL hb hc e n => u.keep b o e n (fun z => (List.mem_cons.mp (I.stkSub b z)).elim hL hb) hc) (fun b o _ _ hc e n => u.any e n hc) (fun b o hc e n => u.free b o e n hc) (fun b o hc e => u.there b o e hc) u.tups u.frzs u.tbls (fun m' hm => by
   (refine DX.x3_2 hm ?_; try clear hm; rintro o' es' ep' ho' r')
   rw [ho] at ho'; cases ho'
   exact ⟨_,es',ep',hL,r'⟩) hok hg
theorem Inv.turned {t':Nat} {it:Addr} (I:Inv X pins σ H s) (k:∀ b o,b ≠ it→s.heap.get? b = some o→h'.get? b = some o) (hn:H it = none) (hL:it ≠ X.env.locals)
   (h1:it ∈ X.ex ∨ X.s₀.heap.objs.size ≤ it) (h2:∀ x c,X.env.cells.lookup x = some c→c ≠ it) (h3:∀ p ∈ X.pn ++ pins,p.1 ≠ it):Inv X pins σ H { s with heap:=h',toks:=t' }:=by
 have nit:∀ b u,H b = some u→b ≠ it:=fun b u e z => by rw [z,hn] at e; cases e
 refine I.step (g':=s.gens) (d':=s.drawn) (ch:=[it]) (fun b hb => ?_) (fun b o _ _ hc e _ => k b o (fun z => hc (by simp [z])) e) (fun b o _ _ hc e _ => ⟨o.slots,k b o (fun z => hc (by simp [z])) e⟩) (fun _ _ _ _ n => n)
   (fun b o hc e => ⟨o,k b o (fun z => hc (by simp [z])) e⟩) (fun _ _ e => e) (fun _ _ _ e => e) (fun b ps e => ⟨#[],by rw [e]; simp⟩) (fun m hm => ?_) (fun b u e => ?_) I.bare
 · have e:b = it:=by simpa using hb
   subst e
   exact ⟨h1,hL,h2,h3⟩
 · (refine DX.x3_2 hm ?_; try clear hm; rintro o es ep ho r)
   exact ⟨o,es,ep,k _ o (Ne.symm hL) ho,r⟩
 · refine (I.hok b u e).stay (fun c v hc q => k c v ?_ q) (fun _ q => q) fun _ _ q => q
   rcases hc with z | z
   · rw [z]; exact nit b u e
   · exact nit c _ z
theorem Inv.tok (I:Inv X pins σ H s) (t:Nat):Inv X pins σ H { s with toks:=t }:=I.un (h':=s.heap) (t':=t) Un.refl I.hok
theorem Inv.kept {t':Nat} (I:Inv X pins σ H s) (k:∀ b u,s.heap.get? b = some u→h'.get? b = some u):Inv X pins σ H { s with heap:=h',toks:=t' }:=I.un (Un.kept k) (I.hok.kept k)
theorem Inv.laid {a:Addr} {o:HO} {t':Nat} (I:Inv X pins σ H s) (k:∀ b u,s.heap.get? b = some u→h'.get? b = some u) (hp:s.heap.objs.size ≤ a) (new:vm_ X.prog X.w (upd H a o) h' a o) :
   Inv X pins σ (upd H a o) { s with heap:=h',toks:=t' }:=I.un (Un.laid k hp (I.hok.fresh hp)) (I.hok.laid k hp new)
theorem Inv.write {x e:Addr} {o:HO} {t':Nat} (I:Inv X pins σ H s) (mu:Mut (H x)) (he:e = x ∨ H e = some (.own x)) (k:∀ b u,b ≠ e→s.heap.get? b = some u→h'.get? b = some u) (heo:∃ u,h'.get? e = some u)
   (new:vm_ X.prog X.w (upd H x o) h' x o):Inv X pins σ (upd H x o) { s with heap:=h',toks:=t' }:=I.un (Un.write mu he k heo) (I.hok.write mu he k heo new)
theorem Inv.pins_of {pins':List (Addr × Obj)} (I:Inv X pins σ H s) (h:∀ p ∈ pins',s.heap.get? p.1 = some p.2 ∧ H p.1 = none ∧ p.1 ≠ X.env.locals ∧ p.1 ∉ X.fs ∧ ∀ v,p.2.data ≠ .cell v):Inv X pins' σ H s :=
 ⟨I.ok,I.os,I.bare,I.base,I.loc,I.cell,I.free,I.freeC,fun p hp => (List.mem_append.mp hp).elim (fun z => I.pin p (List.mem_append_left _ z)) (h p),I.hok,I.len⟩
theorem zx_ {N:List Str} (hN:N.Nodup) {i j:Nat} {x:Str} (a:N[i]? = some x) (b:N[j]? = some x):i = j:=by
 obtain ⟨h1,e1⟩:=List.getElem?_eq_some_iff.mp a
 obtain ⟨h2,e2⟩:=List.getElem?_eq_some_iff.mp b
 exact (List.getElem_inj hN).mp (e1.trans e2.symm)
theorem w0_ {M:Model} {A:Around} {E:Value→Shared→Prop} {i:Nat} {x:Str} {v:V} {u:Value} {Q:Unit→Shared→Prop} (I:Inv X pins σ H s) (hN:X.N.Nodup) (hi:X.N[i]? = some x) (hx:Loc X.env.scope x) (r:RelV v u)
   (h:∀ s',Inv X pins (σ.set i (some v)) H s'→(∃ a,Heap.SameBut a s.heap s'.heap ∧ (a = X.env.locals ∨ X.env.cells.lookup x = some a))→Q () s') (hf:autoParam (X.fn x = true ∨ X.env.scope.names.lookup x = some .local) au4._auto_1):wpAny M A (storeName X.env x u) Q E s:=by
 (refine DX.x1_2 (id I.loc) ?_; rintro m hn hl)
 have hcls:(X.env.scope.kind == .class || (X.env.scope.kind == .module && X.env.locals != X.env.globals)) = false:=by rw [I.ok.kind]; rfl
 have hiσ:i < σ.length:=by rw [I.len]; exact (List.getElem?_eq_some_iff.mp hi).1
 have cne:=I.cne
 have tracked:∀ {a:Addr} {h':Heap},(∃ o,s.heap.get? a = some o ∧ H a = none)→Heap.SameBut a s.heap h'→HOk X.prog X.w H h':=fun {a h'} ha hs b ob e => by
   (refine DX.x1_2 ha ?_; try clear ha; rintro _ _ hfree)
   refine (I.hok b ob e).stay (fun c w' hc q => (hs.2 c ?_).trans q) (fun _ q => q) fun _ _ q => q
   rintro rfl
   rcases hc with rfl | hc
   · rw [hfree] at e; cases e
   · rw [hfree] at hc; cases hc
 rcases hx with hk | hk
 · refine wpAny_storeName_local hk hn (fun h' hn' hs => ?_) hcls
   (refine DX.x3_2 (id hn) ?_; rintro oL _ _ hoL _)
   refine h _ ⟨I.ok,I.os,I.bare,⟨fun b o e n hb hx => ?_,fun b o e n hb hx => ?_,I.base.free,fun b o e hx => ?_,I.base.tups,I.base.frzs,I.base.tbls⟩,⟨_,hn',fun j y v' e1 e2 e3 => ?_⟩,fun y c e => ?_,I.free,I.freeC,fun p hp => ?_,tracked ⟨oL,hoL,I.free⟩ hs,by simpa using I.len⟩ ⟨_,hs,.inl rfl⟩
   · exact (hs.2 b (Nat.ne_of_lt (Nat.lt_of_lt_of_le (Heap.lt_size e) I.ok.above))).trans (I.base.keep b o e n hb hx)
   · obtain ⟨sl,e1⟩:=I.base.slot b o e n hb hx
     exact ⟨sl,(hs.2 b (Nat.ne_of_lt (Nat.lt_of_lt_of_le (Heap.lt_size e) I.ok.above))).trans e1⟩
   · obtain ⟨o',e1⟩:=I.base.there b o e hx
     exact ⟨o',(hs.2 b (Nat.ne_of_lt (Nat.lt_of_lt_of_le (Heap.lt_size e) I.ok.above))).trans e1⟩
   · by_cases hj:j = i
     · subst hj
       rw [hi] at e1; cases e1
       rw [List.getElem?_set_self hiσ] at e2
       cases e2
       exact ⟨u,r,.inl ⟨hk,by simp⟩⟩
     · rw [List.getElem?_set_ne (Ne.symm hj)] at e2
       (refine DX.x1_2 (hl j y v' e1 e2 e3) ?_; rintro u' r' q)
       refine ⟨u',r',?_⟩
       rcases q with ⟨k,e⟩ | ⟨k,c,e,z⟩
       · refine .inl ⟨k,?_⟩
         have:y ≠ x:=fun e => hj (zx_ hN e1 (e ▸ hi))
         simp [this,e]
       · exact .inr ⟨k,c,e,z.sameBut hs (cne y c e)⟩
   · obtain ⟨w',z⟩:=I.cell y c e
     exact ⟨w',z.sameBut hs (cne y c e)⟩
   · (refine DX.x0_5 (I.pin p hp) ?_; rintro e n ne nf d)
     exact ⟨(hs.2 p.1 ne).trans e,n,ne,nf,d⟩
 · have hfn:X.fn x = true:=by
     rcases hf with z | z
     · exact z
     · rw [z] at hk; cases hk
   obtain ⟨c,hc⟩:=I.ok.has x (.inl hk)
   obtain ⟨w',z⟩:=I.cell x c hc
   refine wpAny_storeName_cell I.ok.kind hk hc z (fun h' hc' hs => ?_)
   (refine DX.x1_2 (id z) ?_; rintro oc hoc hocd)
   refine h { s with heap:=h' } ⟨I.ok,I.os,I.bare,⟨fun b o e n hb hx => ?_,fun b o e n hb hx => ?_,I.base.free,fun b o e hx => ?_,I.base.tups,I.base.frzs,I.base.tbls⟩,⟨m,hn.sameBut hs (Ne.symm (cne x c hc)),fun j y v' e1 e2 e3 => ?_⟩,fun y c' e => ?_,I.free,I.freeC,fun p hp => ?_,tracked ⟨oc,hoc,I.freeC x c hc⟩ hs,by simpa using I.len⟩ ⟨c,hs,.inr hc⟩
   · exact (hs.2 b (Nat.ne_of_lt (Nat.lt_of_lt_of_le (Heap.lt_size e) (I.ok.cab x c hfn hc)))).trans (I.base.keep b o e n hb hx)
   · obtain ⟨sl,e1⟩:=I.base.slot b o e n hb hx
     exact ⟨sl,(hs.2 b (Nat.ne_of_lt (Nat.lt_of_lt_of_le (Heap.lt_size e) (I.ok.cab x c hfn hc)))).trans e1⟩
   · obtain ⟨o',e1⟩:=I.base.there b o e hx
     exact ⟨o',(hs.2 b (Nat.ne_of_lt (Nat.lt_of_lt_of_le (Heap.lt_size e) (I.ok.cab x c hfn hc)))).trans e1⟩
   · by_cases hj:j = i
     · subst hj
       rw [hi] at e1; cases e1
       rw [List.getElem?_set_self hiσ] at e2
       cases e2
       exact ⟨u,r,.inr ⟨.inl hk,c,hc,hc'⟩⟩
     · rw [List.getElem?_set_ne (Ne.symm hj)] at e2
       (refine DX.x1_2 (hl j y v' e1 e2 e3) ?_; rintro u' r' q)
       refine ⟨u',r',?_⟩
       rcases q with q | ⟨k,c',e,z'⟩
       · exact .inl q
       · refine .inr ⟨k,c',e,z'.sameBut hs ?_⟩
         rintro rfl
         exact hj (zx_ hN e1 (I.ok.inj _ _ _ e hc ▸ hi))
   · by_cases hcc:c' = c
     · subst hcc; exact ⟨_,hc'⟩
     · obtain ⟨w2,z2⟩:=I.cell y c' e
       exact ⟨w2,z2.sameBut hs hcc⟩
   · (refine DX.x0_5 (I.pin p hp) ?_; rintro e n ne nf d)
     refine ⟨(hs.2 p.1 ?_).trans e,n,ne,nf,d⟩
     intro q
     rw [q,hoc] at e
     have q':oc = p.2:=Option.some.inj e
     exact d w' (by rw [← q']; exact hocd)
theorem yx_ {M:Model} {A:Around} {E:Value→Shared→Prop} {i:Nat} {x:Str} {v:V} {u:Value} {Q:Unit→Shared→Prop} (I:Inv X pins σ H s) (hN:X.N.Nodup) (hi:X.N[i]? = some x) (hx:Loc X.env.scope x) (r:RelV v u)
   (h:∀ s',Inv X pins (σ.set i (some v)) H s'→Q () s') (hf:autoParam (X.fn x = true ∨ X.env.scope.names.lookup x = some .local) au4._auto_1):wpAny M A (storeName X.env x u) Q E s :=
 w0_ I hN hi hx r (fun s' I' _ => h s' I') hf
theorem Inv.call' {s':Shared} {ch:List Addr} (I:Inv X pins σ H s) (ho:s'.os = s.os) (u:Un (frs X.stack) ch H H' s.heap s'.heap) (hok:HOk X.prog X.w H' s'.heap) (hg:AllBare s'.gens)
   (hch:∀ b ∈ ch,(b ∈ X.ex ∨ X.s₀.heap.objs.size ≤ b) ∧ b ≠ X.env.locals ∧ (∀ x c,X.env.cells.lookup x = some c→c ≠ b) ∧ ∀ p ∈ X.pn ++ pins,p.1 ≠ b):Inv X pins σ H' s':=by
 obtain ⟨h',g',d',t',o'⟩:=s'
 have e:o' = s.os:=ho
 subst e
 exact I.call (g':=g') (t':=t') (d':=d') u hok hg hch
end
noncomputable abbrev XK:=Value→Option Addr→Hp→Prop
noncomputable abbrev St:=List (Option V)
noncomputable abbrev VK:=V→Hp→Prop
noncomputable abbrev TE:=St→Hp→VK→Prop
noncomputable abbrev TT:=St→Hp→(Bool→Hp→Prop)→Prop
noncomputable abbrev TA:=St→Hp→(List V→Hp→Prop)→Prop
set_option genInjectivity false in
structure Ends where
 nx:St→Hp→Prop
 rt:VK
 bk:St→Hp→Prop:=fun _ _ => False
 ct:St→Hp→Prop:=fun _ _ => False
noncomputable abbrev TS:=Ends→St→Hp→Prop
noncomputable def EP (X:Cx) (pins:List (Addr × Obj)) (σ:St) (Q:VK) (u:Value) (s':Shared):Prop:=∃ v H',Inv X pins σ H' s' ∧ RelV v u ∧ Q v H'
noncomputable def TP (X:Cx) (pins:List (Addr × Obj)) (σ:St) (Q:Bool→Hp→Prop) (b:Bool) (s':Shared):Prop:=∃ H',Inv X pins σ H' s' ∧ Q b H'
noncomputable def AP (X:Cx) (pins:List (Addr × Obj)) (σ:St) (Q:List V→Hp→Prop) (us:List Value) (s':Shared):Prop:=∃ vs H',Inv X pins σ H' s' ∧ Vals vs us ∧ Q vs H'
noncomputable def SP (X:Cx) (pins:List (Addr × Obj)) (D:Ends) (f:Flow) (s':Shared):Prop :=
 match f with
 | .next => ∃ σ' H',Inv X pins σ' H' s' ∧ D.nx σ' H'
 | .brk => ∃ σ' H',Inv X pins σ' H' s' ∧ D.bk σ' H'
 | .cont => ∃ σ' H',Inv X pins σ' H' s' ∧ D.ct σ' H'
 | .ret u => ∃ v σ' H',Inv X pins σ' H' s' ∧ RelV v u ∧ D.rt v H'
noncomputable def PE (X:Cx) (e:Expr) (t:TE):Prop :=
 ∀ (pins:List (Addr × Obj)) (s:Shared) (σ:St) (H:Hp) (Q:VK),Inv X pins σ H s→t σ H Q→wpAny (model X.prog X.w) X.A (eval e X.env) (EP X pins σ Q) X.xe s
noncomputable def PT (X:Cx) (e:Expr) (t:TT):Prop :=
 ∀ (pins:List (Addr × Obj)) (s:Shared) (σ:St) (H:Hp) (Q:Bool→Hp→Prop),Inv X pins σ H s→t σ H Q→wpAny (model X.prog X.w) X.A (isTrue e X.env (eval e X.env)) (TP X pins σ Q) X.xe s
noncomputable def PW (X:Cx) (e:Expr) (t:TT):Prop :=
 ∀ (whole:Sem Value) (pins:List (Addr × Obj)) (s:Shared) (σ:St) (H:Hp) (Q:Bool→Hp→Prop),Inv X pins σ H s→t σ H Q→wpAny (model X.prog X.w) X.A (isTrue e X.env whole) (TP X pins σ Q) X.xe s
theorem PW.pt {X:Cx} {e:Expr} {t:TT} (h:PW X e t):PT X e t:=h _
noncomputable def PA (X:Cx) (es:List Expr) (t:TA):Prop :=
 ∀ (pos:Pos) (pins:List (Addr × Obj)) (s:Shared) (σ:St) (H:Hp) (Q:List V→Hp→Prop),Inv X pins σ H s→t σ H Q→wpAny (model X.prog X.w) X.A (spliced (backTo pos (starEach es X.env))) (AP X pins σ Q) X.xe s
noncomputable def PS (X:Cx) (st:Stmt) (t:TS):Prop :=
 ∀ (pins:List (Addr × Obj)) (s:Shared) (σ:St) (H:Hp) (D:Ends),Inv X pins σ H s→t D σ H→wpAny (model X.prog X.w) X.A (exec st X.env) (SP X pins D) X.xe s
noncomputable def PSs (X:Cx) (st:List Stmt) (t:TS):Prop :=
 ∀ (pins:List (Addr × Obj)) (s:Shared) (σ:St) (H:Hp) (D:Ends),Inv X pins σ H s→t D σ H→wpAny (model X.prog X.w) X.A (execs st X.env) (SP X pins D) X.xe s
theorem thn {α:Type} {t:Sem α} {Q Q':α→Shared→Prop} {M:Model} {A:Around} {E:Value→Shared→Prop} {s:Shared} (h:wpAny M A t Q E s) (hQ:∀ a s,Q a s→Q' a s):wpAny M A t Q' E s:=wpAny_mono h hQ fun _ _ x => x
end L2
namespace L2
open PySem PySem.Spec PyProof.Rows
section
variable {X:Cx}
noncomputable def tVar (i:Nat):TE:=fun σ H Q => ∃ v,σ[i]? = some (some v) ∧ Q v H
noncomputable def tC (v:V):TE:=fun _ H Q => Q v H
theorem yag_ {i:Nat} {x:Str} {pos:Pos} (hN:X.N[i]? = some x) (hv:Vis X.env.scope x) (hd:autoParam ((x == ("__debug__":Str)) = false) au2._auto_1) (hcd:autoParam ((x == ("__classdict__":Str)) = false) au2._auto_1):PE X (.Name x pos) (tVar i):=by
 intro pins s σ H Q I h
 (refine DX.x1_2 h ?_; try clear h; rintro v e h)
 (refine DX.x1_2 I.loc ?_; rintro m hn hl)
 (refine DX.x1_2 (hl i x v hN e hv) ?_; rintro u r l)
 have fin:EP X pins σ Q u s:=⟨v,H,I,r,h⟩
 rcases l with ⟨hk,hm⟩ | ⟨hk,c,hc,hcell⟩
 · exact wpAny_Name (wpAny_loadName_local I.ok.kind hk hn hm fin) hd
 · rcases hk with hk | hk
   · exact wpAny_Name (wpAny_loadName_cell I.ok.kind hk hc hcell fin) hd
   · exact wpAny_Name (wpAny_loadName_free I.ok.kind hk hc hcell fin hcd) hd
theorem xav_ {i j pos}:PE X (.Constant (.int i) j pos) (tC (.int i)):=fun _ _ _ H _ I h => wpAny_Constant_int ⟨.int i,H,I.tok _,⟨_,rfl⟩,h⟩
theorem ybh_ {b j pos}:PE X (.Constant (.bool b) j pos) (tC (.bl b)):=fun _ _ _ H _ I h => Constant_bool ⟨.bl b,H,I,rfl,h⟩
theorem ka7_ {j pos}:PE X (.Constant .none j pos) (tC .non):=fun _ _ _ H _ I h => Constant_none ⟨.non,H,I,rfl,h⟩
theorem wav_ {x j pos}:PE X (.Constant (.str x) j pos) (tC (.str x)):=fun _ _ _ H _ I h => Calls.Constant_str ⟨.str x,H,I.tok _,⟨_,rfl⟩,h⟩
noncomputable def Gl (X:Cx) (x:Str):Prop:=X.env.kindOf x = some .globalImplicit
theorem u5_ {E:Value→Shared→Prop} {pins:List (Addr × Obj)} {s:Shared} {σ:St} {H:Hp} {x:Str} {u:Value} {pos:Pos} {Q:Value→Shared→Prop} (I:Inv X pins σ H s) (hg:Gl X x) (hm:X.mg x = some u) (h:Q u s)
   (hd:autoParam ((x == ("__debug__":Str)) = false) au2._auto_1):wpAny (model X.prog X.w) X.A (eval (.Name x pos) X.env) Q E s :=
 Calls.Name_function_global I.ok.kind hg (Calls.loadGlobal_global (by rw [I.ok.glob]; exact I.mod.glob.keeps I.bk) hm h) hd
theorem j0_ {E:Value→Shared→Prop} {pins:List (Addr × Obj)} {s:Shared} {σ:St} {H:Hp} {x:Str} {u:Value} {pos:Pos} {Q:Value→Shared→Prop} (I:Inv X pins σ H s) (hg:Gl X x) (hm:X.mg x = none) (hv:bootBuiltins x = some u) (h:Q u s)
   (hn:autoParam (x ≠ "__name__") au2._auto_1) (hd:autoParam ((x == ("__debug__":Str)) = false) au2._auto_1):wpAny (model X.prog X.w) X.A (eval (.Name x pos) X.env) Q E s:=by
 (refine DX.x1_2 I.mod.blt ?_; rintro mb h1 h2)
 exact Calls.Name_function_global I.ok.kind hg (Calls.loadGlobal_builtin (by rw [I.ok.glob]; exact I.mod.glob.keeps I.bk) hm (by rw [I.ok.blt]; exact h1.keeps I.bk) ((h2 x hn).trans hv) h) hd
theorem q5_ {x:Str} {v:V} {u:Value} {pos:Pos} (hg:Gl X x) (hm:X.mg x = some u) (r:RelV v u) (hd:autoParam ((x == ("__debug__":Str)) = false) au2._auto_1):PE X (.Name x pos) (tC v) :=
 fun _ _ _ H _ I h => u5_ I hg hm ⟨v,H,I,r,h⟩ hd
theorem kay_ {x:Str} {v:V} {u:Value} {pos:Pos} (hg:Gl X x) (hm:X.mg x = none) (hv:bootBuiltins x = some u) (r:RelV v u) (hn:autoParam (x ≠ "__name__") au2._auto_1) (hd:autoParam ((x == ("__debug__":Str)) = false) au2._auto_1):PE X (.Name x pos) (tC v) :=
 fun _ _ _ H _ I h => j0_ I hg hm hv ⟨v,H,I,r,h⟩ hn hd
variable {a b:Expr} {ta tb:TE} {pos:Pos}
noncomputable def PC (X:Cx) (op:CmpOp) (a b:Expr) (t:TE):Prop :=
 ∀ (pins:List (Addr × Obj)) (s:Shared) (σ:St) (H:Hp) (Q:VK),Inv X pins σ H s→t σ H Q →
   wpAny (model X.prog X.w) X.A (eval a X.env) (fun v s₁ => wpAny (model X.prog X.w) X.A (eval b X.env) (fun u s₂ => wpAny (model X.prog X.w) X.A (compareOp op v u) (EP X pins σ Q) X.xe s₂) X.xe s₁) X.xe s
theorem z9_ (b:Expr) {op:CmpOp} (h:op ≠ .In) (h2:op ≠ .NotIn):behindInMarks op b = false:=by
 have e1:(op == CmpOp.In) = false:=by cases op <;> first | rfl | exact absurd rfl h
 have e2:(op == CmpOp.NotIn) = false:=by cases op <;> first | rfl | exact absurd rfl h2
 cases b <;> simp [behindInMarks,e1,e2]
noncomputable def tIsN (ta:TE):TE:=fun σ H Q => ta σ H fun x H1 => Q (.bl (decide (x = .non))) H1
noncomputable def va7_ (ta:TE):TE:=fun σ H Q => ta σ H fun x H1 => Q (.bl (!decide (x = .non))) H1
theorem RelV.none_iff {x:V} {v:Value} (r:RelV x v):(v == Value.none) = decide (x = .non):=by
 cases x with
 | non => cases r; rfl
 | bl _ => cases r; rfl
 | int _ => obtain ⟨t,rfl⟩:=r; rfl
 | str _ => obtain ⟨t,rfl⟩:=r; rfl
 | byt _ => obtain ⟨t,rfl⟩:=r; rfl
 | flt _ => obtain ⟨t,rfl⟩:=r; rfl
 | ref _ => cases r; rfl
 | ty _ => cases r; rfl
theorem jav_ {j pos'} (ha:PE X a ta):PC X .Is a (.Constant .none j pos') (tIsN ta):=by
 intro pins s σ H Q I h
 refine thn (ha pins s σ H _ I h) fun v s1 ⟨x,H1,I1,r1,q1⟩ => ?_
 exact Constant_none (is_none_gen ⟨.bl _,H1,I1,by rw [r1.none_iff]; rfl,q1⟩)
theorem vay_ {j pos'} (ha:PE X a ta):PC X .IsNot a (.Constant .none j pos') (va7_ ta):=by
 intro pins s σ H Q I h
 refine thn (ha pins s σ H _ I h) fun v s1 ⟨x,H1,I1,r1,q1⟩ => ?_
 exact Constant_none (isnot_none_gen ⟨.bl _,H1,I1,by rw [r1.none_iff]; rfl,q1⟩)
noncomputable def tB (t:TE):TT:=fun σ H Q => t σ H fun x H1 => ∃ c,x = .bl c ∧ Q c H1
theorem ua7_ {op:CmpOp} {t:TE} (h:PC X op a b t) (h1:behindInMarks op b = false:=by first | exact z9_ _ (by decide) (by decide) | rfl):PE X (.Compare a [op] [b] pos) t:=fun pins s σ H Q I hw => wpAny_Compare1 (h pins s σ H Q I hw) h1
theorem kav_ {op:CmpOp} {t:TE} (h:PC X op a b t) (h1:behindInMarks op b = false:=by first | exact z9_ _ (by decide) (by decide) | rfl):PT X (.Compare a [op] [b] pos) (tB t):=by
 intro pins s σ H Q I hw
 refine wpAny_isTrue_Compare1 (thn (h pins s σ H _ I hw) fun v s1 h1 => thn h1 fun u s2 h2 => thn h2 fun c s3 ⟨x,H1,I1,r1,q1⟩ => ?_) h1
 (refine DX.x1_2 q1 ?_; try clear q1; rintro d rfl q)
 cases r1
 exact wpAny_truthy_bool ⟨H1,I1,q⟩
variable {tA tB':TT} {rest:List Expr}
noncomputable def tAnd (t u:TT):TT:=fun σ H Q => t σ H fun c H1 => if c = true then u σ H1 Q else Q false H1
noncomputable def tOr (t u:TT):TT:=fun σ H Q => t σ H fun c H1 => if c = true then Q true H1 else u σ H1 Q
noncomputable def tNot (t:TT):TT:=fun σ H Q => t σ H fun c H1 => Q (!c) H1
theorem uay_ (ha:PT X a tA):PW X (.BoolOp .And [a] pos) tA:=by
 intro wh pins s σ H Q I h
 refine isTrue_and (thn (ha pins s σ H Q I h) fun c s1 e => ?_)
 cases c with
 | true => exact isTrue_and_nil e
 | false => exact e
theorem qa7_ (ha:PT X a tA):PW X (.BoolOp .Or [a] pos) tA:=by
 intro wh pins s σ H Q I h
 refine isTrue_or (thn (ha pins s σ H Q I h) fun c s1 e => ?_)
 cases c with
 | false => exact isTrue_or_nil e
 | true => exact e
theorem za8_ (ha:PT X a tA) (hb:PW X (.BoolOp .And (b :: rest) pos) tB'):PW X (.BoolOp .And (a :: b :: rest) pos) (tAnd tA tB'):=by
 intro wh pins s σ H Q I h
 refine isTrue_and (thn (ha pins s σ H _ I h) fun c s1 ⟨H1,I1,q1⟩ => ?_)
 cases c with
 | true => exact hb wh pins s1 σ H1 Q I1 q1
 | false => exact ⟨H1,I1,q1⟩
theorem xbh_ (ha:PT X a tA) (hb:PW X (.BoolOp .Or (b :: rest) pos) tB'):PW X (.BoolOp .Or (a :: b :: rest) pos) (tOr tA tB'):=by
 intro wh pins s σ H Q I h
 refine isTrue_or (thn (ha pins s σ H _ I h) fun c s1 ⟨H1,I1,q1⟩ => ?_)
 cases c with
 | true => exact ⟨H1,I1,q1⟩
 | false => exact hb wh pins s1 σ H1 Q I1 q1
theorem ya8_ (ha:PT X a tA):PT X (.UnaryOp .Not a pos) (tNot tA):=by
 intro pins s σ H Q I h
 exact isTrue_not (ha pins s σ H (fun c H1 => Q (!c) H1) I h)
noncomputable def wbh_ (ta tb:TE):TE:=fun σ H Q => ta σ H fun x H1 => ∃ c,x = .bl c ∧ if c = true then tb σ H1 Q else Q (.bl false) H1
noncomputable def tOrV (ta tb:TE):TE:=fun σ H Q => ta σ H fun x H1 => ∃ c,x = .bl c ∧ if c = true then Q (.bl true) H1 else tb σ H1 Q
theorem xa8_ {op} {t:TE} (h:PE X a t):PE X (.BoolOp op [a] pos) t:=fun pins s σ H Q I hw => BoolOp_one (h pins s σ H Q I hw)
theorem wa8_ (ha:PE X a ta) (hb:PE X (.BoolOp .And (b :: rest) pos) tb):PE X (.BoolOp .And (a :: b :: rest) pos) (wbh_ ta tb):=by
 intro pins s σ H Q I h
 refine BoolOp_and (thn (ha pins s σ H _ I h) fun v s1 ⟨x,H1,I1,r1,q1⟩ => ?_)
 (refine DX.x1_2 q1 ?_; try clear q1; rintro c rfl q1)
 cases r1
 refine wpAny_truthy_bool ?_
 cases c with
 | true => exact hb pins s1 σ H1 Q I1 q1
 | false => exact ⟨.bl false,H1,I1,rfl,q1⟩
theorem jbh_ (ha:PE X a ta) (hb:PE X (.BoolOp .Or (b :: rest) pos) tb):PE X (.BoolOp .Or (a :: b :: rest) pos) (tOrV ta tb):=by
 intro pins s σ H Q I h
 refine BoolOp_or (thn (ha pins s σ H _ I h) fun v s1 ⟨x,H1,I1,r1,q1⟩ => ?_)
 (refine DX.x1_2 q1 ?_; try clear q1; rintro c rfl q1)
 cases r1
 refine wpAny_truthy_bool ?_
 cases c with
 | false => exact hb pins s1 σ H1 Q I1 q1
 | true => exact ⟨.bl true,H1,I1,rfl,q1⟩
noncomputable def tIf (t:TT) (ta tb:TE):TE:=fun σ H Q => t σ H fun c H1 => if c = true then ta σ H1 Q else tb σ H1 Q
theorem qao_ {c:Expr} (hc:PT X c tA) (ha:PE X a ta) (hb:PE X b tb):PE X (.IfExp c a b pos) (tIf tA ta tb):=by
 intro pins s σ H Q I h
 refine wpAny_IfExp (thn (hc pins s σ H _ I h) fun d s1 ⟨H1,I1,q1⟩ => ?_)
 cases d with
 | true => exact ha pins s1 σ H1 Q I1 q1
 | false => exact hb pins s1 σ H1 Q I1 q1
end
end L2
namespace L2
open PySem PySem.Spec PyProof.Rows
noncomputable def SqL (K:PySem.W.Frag) (H:Hp) (a:Addr) (xs:List V):Prop :=
 Rd H a (.lst xs) ∨
   ∃ (o:Obj) (its:Array Value) (n:Nat),K.lookup a = some o ∧ o.cls = .type "list" ∧ o.dict = none ∧ o.data = .seq its n ∧ its.size ≤ sizeLine ∧ Vals xs its.toList
noncomputable def SqT (K:PySem.W.Frag) (H:Hp) (a:Addr) (xs:List V):Prop :=
 Rd H a (.tup xs) ∨
   ∃ (o:Obj) (its:Array Value) (n:Nat),K.lookup a = some o ∧ o.cls = .type "tuple" ∧ o.data = .seq its n ∧ its.size ≤ sizeLine ∧ Vals xs its.toList
noncomputable def absV:Value→Option V
 | .none => some .non
 | .bool b => some (.bl b)
 | .int i _ => some (.int i)
 | .str x _ => some (.str x)
 | .bytes b _ => some (.byt b)
 | .float b _ => some (.flt b)
 | .ref a => some (.ref a)
 | .type n => some (.ty n)
 | _ => none
theorem RelV.abs {x:V} {u:Value} (r:RelV x u):absV u = some x:=by
 cases x with
 | non => cases r; rfl
 | bl _ => cases r; rfl
 | int _ => obtain ⟨t,rfl⟩:=r; rfl
 | str _ => obtain ⟨t,rfl⟩:=r; rfl
 | byt _ => obtain ⟨t,rfl⟩:=r; rfl
 | flt _ => obtain ⟨t,rfl⟩:=r; rfl
 | ref _ => cases r; rfl
 | ty _ => cases r; rfl
theorem RelV.inj {x y:V} {u:Value} (r:RelV x u) (q:RelV y u):x = y:=Option.some.inj (r.abs.symm.trans q.abs)
theorem Vals.inj:∀ {xs ys:List V} {us:List Value},Vals xs us→Vals ys us→xs = ys
 | _,_,_,.nil,.nil => rfl
 | _,_,_,.cons r t,.cons r' t' => by rw [r.inj r',Vals.inj t t']
section
variable {X:Cx} {pins:List (Addr × Obj)} {σ:St} {H:Hp} {s:Shared} {a:Addr} {xs ys:List V}
theorem SqL.of {K:PySem.W.Frag} (h:H a = some (.lst xs)):SqL K H a xs:=.inl (.inl h)
theorem SqT.of {K:PySem.W.Frag} (h:H a = some (.tup xs)):SqT K H a xs:=.inl (.inl h)
theorem Inv.list (I:Inv X pins σ H s) (h:SqL X.K H a xs):∃ its:List Value,Vals xs its ∧ PlainL s.heap a its.toArray ∧ xs.length ≤ sizeLine:=by
 rcases h with h | ⟨o,its,n,hk,hc,hd,hs,hz,r⟩
 · obtain ⟨z,its,n,r,e⟩:=h.ok I.hok
   exact ⟨its,r,⟨_,n,e,rfl,rfl,rfl⟩,z⟩
 · refine ⟨its.toList,r,⟨o,n,I.kIn a o hk,hc,hd,by simpa using hs⟩,?_⟩
   have e:=r.length
   simp only [Array.length_toList] at e
   omega
theorem Inv.tuple (I:Inv X pins σ H s) (h:SqT X.K H a xs):∃ its:List Value,Vals xs its ∧ IsTup s.heap a its.toArray ∧ xs.length ≤ sizeLine:=by
 rcases h with h | ⟨o,its,n,hk,hc,hs,hz,r⟩
 · obtain ⟨z,its,r,p⟩:=h.ok I.hok
   exact ⟨its,r,p,z⟩
 · refine ⟨its.toList,r,⟨o,I.kIn a o hk,hc,n,by simpa using hs⟩,?_⟩
   have e:=r.length
   simp only [Array.length_toList] at e
   omega
theorem Inv.list_inj (I:Inv X pins σ H s) (h:SqL X.K H a xs) (h':SqL X.K H a ys):xs = ys:=by
 (refine DX.x1_3 (I.list h) ?_; rintro its r ⟨o,n,e,_,_,d⟩ _)
 (refine DX.x1_3 (I.list h') ?_; rintro its' r' ⟨o',n',e',_,_,d'⟩ _)
 rw [e] at e'; cases e'
 rw [d] at d'
 injection d' with d1 _
 have:its = its':=by simpa using congrArg Array.toList d1
 subst this
 exact r.inj r'
theorem Inv.tuple_inj (I:Inv X pins σ H s) (h:SqT X.K H a xs) (h':SqT X.K H a ys):xs = ys:=by
 (refine DX.x1_3 (I.tuple h) ?_; rintro its r ⟨o,e,_,n,d⟩ _)
 (refine DX.x1_3 (I.tuple h') ?_; rintro its' r' ⟨o',e',_,n',d'⟩ _)
 rw [e] at e'; cases e'
 rw [d] at d'
 injection d' with d1 _
 have:its = its':=by simpa using congrArg Array.toList d1
 subst this
 exact r.inj r'
end
section
variable {X:Cx} {pins:List (Addr × Obj)} {σ:St} {H:Hp} {s:Shared} {E:Value→Shared→Prop}
end
section
variable {X:Cx} {st:Stmt} {rest:List Stmt} {t u:TS} {e:Expr} {te:TE} {pos:Pos}
noncomputable def kbh_:TS:=fun D σ H => D.nx σ H
noncomputable def tSeq (t u:TS):TS:=fun D σ H => t { D with nx:=u D } σ H
theorem qay_:PSs X [] kbh_:=fun _ _ σ H _ I h => wpAny_execs_nil ⟨σ,H,I,h⟩
theorem zap_ (h1:PS X st t) (h2:PSs X rest u):PSs X (st :: rest) (tSeq t u):=by
 intro pins s σ H D I h
 refine wpAny_execs_cons (thn (h1 pins s σ H { D with nx:=u D } I h) fun f s1 q => ?_)
 cases f with
 | next =>
   (refine DX.x2_2 q ?_; try clear q; rintro σ' H' I' q)
   exact h2 pins s1 σ' H' D I' q
 | ret v => exact q
 | brk => exact q
 | cont => exact q
theorem zaz_ (h1:PS X st t):PSs X [st] t:=by
 intro pins s σ H D I h
 refine wpAny_execs_cons (thn (h1 pins s σ H D I h) fun f s1 q => ?_)
 cases f with
 | next => exact wpAny_execs_nil q
 | ret v => exact q
 | brk => exact q
 | cont => exact q
theorem Inv.quiet {pins:List (Addr × Obj)} {σ:St} {H:Hp} {s:Shared} (I:Inv X pins σ H s):interactive X.env = false:=by simp [interactive,I.ok.kind]
noncomputable def vbh_ (te:TE):TS:=fun D σ H => te σ H fun _ H1 => D.nx σ H1
theorem z6_ (he:PE X e te) (hs:autoParam (swapsWith e none pos.line X.env = pure false) au1._auto_1):PS X (.Expr e pos) (vbh_ te):=by
 intro pins s σ H D I h
 exact wpAny_Expr_any (thn (he pins s σ H _ I h) fun v s1 ⟨x,H1,I1,r1,q1⟩ => ⟨σ,H1,I1,q1⟩) I.quiet hs
noncomputable def tRet (te:TE):TS:=fun D σ H => te σ H D.rt
theorem ja8_ (he:PE X e te):PS X (.Return (some e) pos) (tRet te):=by
 intro pins s σ H D I h
 exact wpAny_Return_some (thn (he pins s σ H _ I h) fun v s1 ⟨x,H1,I1,r1,q1⟩ => ⟨x,σ,H1,I1,r1,q1⟩)
noncomputable def tIfS (c:TT) (t u:TS):TS:=fun D σ H => c σ H fun b H1 => if b = true then t D σ H1 else u D σ H1
theorem ubh_ {c:Expr} {a b:List Stmt} {tc:TT} (hc:PT X c tc) (ha:PSs X a t) (hb:PSs X b u):PS X (.If c a b pos) (tIfS tc t u):=by
 intro pins s σ H D I h
 refine wpAny_If (thn (hc pins s σ H _ I h) fun d s1 ⟨H1,I1,q1⟩ => ?_)
 cases d with
 | true => exact ha pins s1 σ H1 D I1 q1
 | false => exact hb pins s1 σ H1 D I1 q1
end
noncomputable abbrev TG:=V→St→Hp→(St→Hp→Prop)→Prop
noncomputable abbrev TGs:=List V→St→Hp→(St→Hp→Prop)→Prop
noncomputable def PG (X:Cx) (target:Expr) (t:TG):Prop :=
 ∀ (pins:List (Addr × Obj)) (s:Shared) (σ:St) (H:Hp) (v:V) (u:Value) (Q:St→Hp→Prop),Inv X pins σ H s→RelV v u→t v σ H Q →
   wpAny (model X.prog X.w) X.A (assign target X.env u) (fun _ s' => ∃ σ' H',Inv X pins σ' H' s' ∧ Q σ' H') X.xe s
noncomputable def PGs (X:Cx) (ts:List Expr) (t:TGs):Prop :=
 ∀ (pins:List (Addr × Obj)) (s:Shared) (σ:St) (H:Hp) (vs:List V) (us:List Value) (Q:St→Hp→Prop),Inv X pins σ H s→Vals vs us→t vs σ H Q →
   wpAny (model X.prog X.w) X.A (assignInOrder ((assignEach ts X.env).map (·.2)) us) (fun _ s' => ∃ σ' H',Inv X pins σ' H' s' ∧ Q σ' H') X.xe s
section
variable {X:Cx} {pos:Pos}
noncomputable def xag_ (i:Nat):TG:=fun v σ H Q => Q (σ.set i (some v)) H
theorem wag_ {i:Nat} {x:Str} (hN:X.N.Nodup) (hi:X.N[i]? = some x) (hx:Loc X.env.scope x) (hf:autoParam (X.fn x = true ∨ X.env.scope.names.lookup x = some .local) au4._auto_1):PG X (.Name x pos) (xag_ i):=by
 intro pins s σ H v u Q I r h
 exact wpAny_assign_Name (yx_ I hN hi hx r (fun s' I' => ⟨_,H,I',h⟩) hf)
noncomputable def gNil:TGs:=fun vs σ H Q => vs = [] ∧ Q σ H
noncomputable def qbh_ (t:TG) (u:TGs):TGs:=fun vs σ H Q => ∃ v r,vs = v :: r ∧ t v σ H fun σ' H' => u r σ' H' Q
theorem yaz_:PGs X [] gNil:=by
 intro pins s σ H vs us Q I r h
 obtain ⟨e,h⟩:=h
 subst e
 cases r
 exact assignInOrder_nil ⟨σ,H,I,h⟩
theorem yap_ {e:Expr} {es:List Expr} {t:TG} {u:TGs} (h1:PG X e t) (h2:PGs X es u)
   (hs:autoParam ((assignEach (e :: es) X.env).map (·.2) = assign e X.env :: (assignEach es X.env).map (·.2)) au1._auto_1):PGs X (e :: es) (qbh_ t u):=by
 intro pins s σ H vs us Q I r h
 (refine DX.x2_2 h ?_; try clear h; rintro v vr e1 h)
 subst e1
 cases r with
 | cons r rr =>
   rw [hs]
   refine assignInOrder_cons (thn (h1 pins s σ H _ _ _ I r h) fun _ s1 ⟨σ1,H1,I1,q1⟩ => ?_)
   exact h2 pins s1 σ1 H1 _ _ Q I1 rr q1
noncomputable def gTup (K:PySem.W.Frag) (n:Nat) (t:TGs):TG:=fun v σ H Q => ∃ a xs,v = .ref a ∧ SqT K H a xs ∧ xs.length = n ∧ t xs σ H Q
theorem ka8_ {es:List Expr} {k:Nat} {t:TGs} {n:Nat} (hc:X.calm = true) (h:PGs X es t)
   (hn:autoParam ((assignEach es X.env).length = n) au1._auto_1) (hst:autoParam ((assignEach es X.env).findIdx? (·.1) = none) au1._auto_1):PG X (.Tuple es k pos) (gTup X.K n t):=by
 intro pins s σ H v u Q I r hw
 (refine DX.x2_4 hw ?_; try clear hw; rintro a xs e1 hq hl hw)
 subst e1
 cases r
 (refine DX.x1_3 (I.tuple hq) ?_; rintro its rv ht hz)
 refine assign_Tuple_tuple (I.ok.hd hc) ht (by simp [hn,← hl,rv.length]) hst fun h' hx => ?_
 have I1:Inv X pins σ H { s with heap:=h' }:=I.kept (t':=s.toks) fun b o e => hx b o (Nat.ne_of_lt (Heap.lt_size e)) e
 exact h pins _ σ H xs _ Q I1 (by simpa using rv) hw
noncomputable def tAsg (te:TE) (g:TG):TS:=fun D σ H => te σ H fun x H1 => g x σ H1 D.nx
theorem vav_ {i:Nat} {x:Str} {e:Expr} {te:TE} {pos':Pos} (hN:X.N.Nodup) (hi:X.N[i]? = some x) (hx:Loc X.env.scope x) (he:PE X e te) (hs:autoParam (swapsWith e (some (.Name x pos')) pos.line X.env = pure false) au1._auto_1) (hf:autoParam (X.fn x = true ∨ X.env.scope.names.lookup x = some .local) au4._auto_1) :
   PS X (.Assign [.Name x pos'] e pos) (tAsg te (xag_ i)):=by
 intro pins s σ H D I h
 refine wpAny_Assign_Name (thn (he pins s σ H _ I h) fun v s1 ⟨y,H1,I1,r1,q1⟩ => ?_) hs
 exact yx_ I1 hN hi hx r1 (fun s2 I2 => ⟨_,H1,I2,q1⟩) hf
end
section
variable {X:Cx} {pos:Pos}
end
set_option genInjectivity false in
structure It where
 go:Nat→Hp→Prop
 yld:Nat→Hp→V→Hp→Prop
 stop:Nat→Hp→Prop
noncomputable def FpOk (X:Cx) (pins:List (Addr × Obj)) (H:Hp) (b:Addr):Prop :=
 H b = none ∧ b ≠ X.env.locals ∧ b ∉ X.fs ∧ (b ∈ X.ex ∨ X.s₀.heap.objs.size ≤ b) ∧ (∀ x c,X.env.cells.lookup x = some c→c ≠ b) ∧ ∀ p ∈ X.pn ++ pins,p.1 ≠ b
theorem Inv.fpOk {X:Cx} {pins:List (Addr × Obj)} {σ:St} {H H':Hp} {s:Shared} {b:Addr} (I:Inv X pins σ H s) (hb:s.heap.objs.size ≤ b) (hn:H' b = none):FpOk X pins H' b:=by
 refine ⟨hn,Nat.ne_of_gt (Nat.lt_of_lt_of_le I.lt hb),I.nofs hb,.inr (Nat.le_trans I.sz hb),fun x c e z => ?_,fun p hp z => ?_⟩
 · obtain ⟨v,q⟩:=I.cell x c e
   exact absurd (Nat.lt_of_lt_of_le q.lt (by rw [z]; exact hb)) (Nat.lt_irrefl _)
 · exact absurd (Nat.lt_of_lt_of_le (Heap.lt_size (I.pin p hp).1) (by rw [z]; exact hb)) (Nat.lt_irrefl _)
structure Turn (P:Program) (w:World) (K:PySem.W.Frag) (tg:Expr) (J:It) (fp:List Addr) (it:Addr) (tn:Nat→Heap→Prop):Prop where
 mem:it ∈ fp
 obj:∀ i h,tn i h→∀ b ∈ fp,∃ o,h.get? b = some o ∧ ∀ v,o.data ≠ .cell v
 keep:∀ i h h',tn i h→(∀ b ∈ fp,∀ o,h.get? b = some o→h'.get? b = some o)→tn i h'
 item:∀ (X:Cx),X.prog = P→X.w = w→X.K = K→X.calm = true→∀ (i:Nat) (pins:List (Addr × Obj)) (s:Shared) (σ:St) (H:Hp) (E:Value→Shared→Prop),Inv X pins σ H s→(∀ b ∈ fp,FpOk X pins H b)→tn i s.heap→J.go i H →
   wpAny (model P w) X.A (pyNext (.ref it)) (fun r s1 => ∃ u,r = some u ∧
     wpAny (model P w) X.A (letOwnedTupleGo tg (.ref it) u) (fun _ s2 => ∃ x H',Inv X pins σ H' s2 ∧ RelV x u ∧ J.yld i H x H' ∧ tn (i + 1) s2.heap ∧ ∀ b ∈ fp,H' b = none) E s1) E s
 done:∀ (X:Cx),X.prog = P→X.w = w→X.K = K→X.calm = true→∀ (i:Nat) (pins:List (Addr × Obj)) (s:Shared) (σ:St) (H:Hp) (E:Value→Shared→Prop),Inv X pins σ H s→(∀ b ∈ fp,FpOk X pins H b)→tn i s.heap→J.stop i H →
   wpAny (model P w) X.A (pyNext (.ref it)) (fun r s1 => r = none ∧ Inv X pins σ H s1) E s
 self:∀ (A:Around) (i:Nat) (s:Shared) (Q:Value→Shared→Prop) (E:Value→Shared→Prop),tn i s.heap→Q (.ref it) s→wpAny (model P w) A (pyIter (.ref it)) Q E s
noncomputable abbrev TI:=St→Hp→(It→Hp→Prop)→Prop
noncomputable def PIE (X:Cx) (pins:List (Addr × Obj)) (σ:St) (tg:Expr) (R:It→Hp→Prop) (itv:Value) (s2:Shared):Prop :=
 ∃ (it:Addr) (fp:List Addr) (tn:Nat→Heap→Prop) (J:It) (H':Hp),itv = .ref it ∧ Inv X pins σ H' s2 ∧ Turn X.prog X.w X.K tg J fp it tn ∧ tn 0 s2.heap ∧ (∀ b ∈ fp,FpOk X pins H' b) ∧ R J H'
noncomputable def PI (X:Cx) (tg iter:Expr) (wi:TI):Prop :=
 ∀ (pins:List (Addr × Obj)) (s:Shared) (σ:St) (H:Hp) (R:It→Hp→Prop),Inv X pins σ H s→wi σ H R →
   wpAny (model X.prog X.w) X.A (eval iter X.env) (fun v s1 => wpAny (model X.prog X.w) X.A (pyIter v) (PIE X pins σ tg R) X.xe s1) X.xe s
theorem xap_ {M:Model} {A:Around} {E:Value→Shared→Prop} {s:Shared} {tg:Expr} {it:Addr} {u:Value} {o:Obj} {n:String} {vs:Array Value} {Q:Unit→Shared→Prop} (ho:s.heap.get? it = some o) (hc:o.cls = .type n) (hd:o.data = .fields vs)
   (hn:["enumerate","zip","dict_itemiterator","dict_reverseitemiterator","odict_iterator","itertools.zip_longest","itertools.pairwise"].contains n = false) (hQ:Q () s):wpAny M A (letOwnedTupleGo tg (.ref it) u) Q E s:=by
 unfold letOwnedTupleGo
 cases tg <;> first
   | exact wpAny_pure hQ
   | (cases u <;> first
       | exact wpAny_pure hQ
       | (refine wpAny_bind (wpAny_load ho ?_)
          rw [hc,hd]
          show wpAny M A (if (["enumerate","zip","dict_itemiterator","dict_reverseitemiterator","odict_iterator","itertools.zip_longest","itertools.pairwise"].contains n && vs[0]? == some (rawInt _)) = true then _ else _) Q E s
          rw [if_neg (by intro h; rw [hn,Bool.false_and] at h; cases h)]
          exact wpAny_pure hQ))
noncomputable def Itl (K:PySem.W.Frag) (a:Addr):It :=
 ⟨fun i H => ∃ xs x,SqL K H a xs ∧ xs[i]? = some x,fun i H x H' => H' = H ∧ ∀ xs,SqL K H a xs→xs[i]? = some x,fun i H => ∃ xs,SqL K H a xs ∧ xs.length ≤ i⟩
noncomputable def Itt (K:PySem.W.Frag) (a:Addr):It :=
 ⟨fun i H => ∃ xs x,SqT K H a xs ∧ xs[i]? = some x,fun i H x H' => H' = H ∧ ∀ xs,SqT K H a xs→xs[i]? = some x,fun i H => ∃ xs,SqT K H a xs ∧ xs.length ≤ i⟩
noncomputable def Itr (lo:Int) (n:Nat):It:=⟨fun i _ => i < n,fun i H x H' => H' = H ∧ x = .int (lo + i),fun i _ => n ≤ i⟩
theorem jag_ {P:Program} {w:World} {K:PySem.W.Frag} {tg:Expr} (a it:Addr):Turn P w K tg (Itl K a) [it] it (fun i h => h.IsListIter it a i) where
 mem:=by simp
 obj:=fun i h st b hb => by
   have e:b = it:=by simpa using hb
   subst e
   (refine DX.x1_3 st ?_; try clear st; rintro o e c d)
   exact ⟨o,e,fun v z => by rw [d] at z; cases z⟩
 keep:=fun i h h' st k => st.at fun o e => k it (by simp) o e
 item:=by
   intro X hP hw hK hc i pins s σ H E I hf st hg
   subst hP hw hK
   (refine DX.x2_2 hg ?_; try clear hg; rintro xs x hq hx)
   (refine DX.x1_3 (I.list hq) ?_; rintro its rv p hz)
   (refine DX.x1_2 (rv.get hx) ?_; rintro u hu ru)
   (refine DX.x0_6 (hf it (by simp)) ?_; rintro f0 f1 f2 f3 f4 f5)
   refine wpAny_pyNext_list_item st p.isList (x:=u) (by simpa using hu) fun h' st' sb => ?_
   have I1:Inv X pins σ H { s with heap:=h' }:=I.turned (t':=s.toks) (fun b o hb e => (sb.2 b hb).trans e) f0 f1 f3 f4 f5
   (refine DX.x1_3 (id st') ?_; rintro o e c d)
   exact ⟨u,rfl,xap_ (s:={ s with heap:=h' }) e c d (by decide) ⟨x,H,I1,ru,⟨rfl,fun ys hy => by rw [I.list_inj hy hq]; exact hx⟩,st',fun b hb => (hf b hb).1⟩⟩
 done:=by
   intro X hP hw hK hc i pins s σ H E I hf st hg
   subst hP hw hK
   (refine DX.x1_2 hg ?_; try clear hg; rintro xs hq hx)
   (refine DX.x1_3 (I.list hq) ?_; rintro its rv p hz)
   (refine DX.x0_6 (hf it (by simp)) ?_; rintro f0 f1 f2 f3 f4 f5)
   have hl:=rv.length
   exact wpAny_pyNext_list_end (I.ok.hd hc) st p.isList (by simp; omega) fun h' eb => ⟨rfl,I.turned (t':=s.toks) (fun b o hb e => eb b o hb e) f0 f1 f3 f4 f5⟩
 self:=fun _ _ _ _ _ st h => wpAny_pyIter_listiter st h
theorem jac_ {P:Program} {w:World} {K:PySem.W.Frag} {tg:Expr} (a it:Addr):Turn P w K tg (Itt K a) [it] it (fun i h => h.IsTupleIter it a i) where
 mem:=by simp
 obj:=fun i h st b hb => by
   have e:b = it:=by simpa using hb
   subst e
   (refine DX.x1_3 st ?_; try clear st; rintro o e c d)
   exact ⟨o,e,fun v z => by rw [d] at z; cases z⟩
 keep:=fun i h h' st k => st.at fun o e => k it (by simp) o e
 item:=by
   intro X hP hw hK hc i pins s σ H E I hf st hg
   subst hP hw hK
   (refine DX.x2_2 hg ?_; try clear hg; rintro xs x hq hx)
   (refine DX.x1_3 (I.tuple hq) ?_; rintro its rv p hz)
   (refine DX.x1_2 (rv.get hx) ?_; rintro u hu ru)
   (refine DX.x0_6 (hf it (by simp)) ?_; rintro f0 f1 f2 f3 f4 f5)
   refine wpAny_pyNext_tuple_item st (show s.heap.IsTuple a its.toArray from p) (x:=u) (by simpa using hu) fun h' st' sb => ?_
   have I1:Inv X pins σ H { s with heap:=h' }:=I.turned (t':=s.toks) (fun b o hb e => (sb.2 b hb).trans e) f0 f1 f3 f4 f5
   (refine DX.x1_3 (id st') ?_; rintro o e c d)
   exact ⟨u,rfl,xap_ (s:={ s with heap:=h' }) e c d (by decide) ⟨x,H,I1,ru,⟨rfl,fun ys hy => by rw [I.tuple_inj hy hq]; exact hx⟩,st',fun b hb => (hf b hb).1⟩⟩
 done:=by
   intro X hP hw hK hc i pins s σ H E I hf st hg
   subst hP hw hK
   (refine DX.x1_2 hg ?_; try clear hg; rintro xs hq hx)
   (refine DX.x1_3 (I.tuple hq) ?_; rintro its rv p hz)
   (refine DX.x0_6 (hf it (by simp)) ?_; rintro f0 f1 f2 f3 f4 f5)
   have hl:=rv.length
   exact wpAny_pyNext_tuple_end (I.ok.hd hc) st (show s.heap.IsTuple a its.toArray from p) (by simp; omega) fun h' eb => ⟨rfl,I.turned (t':=s.toks) (fun b o hb e => eb b o hb e) f0 f1 f3 f4 f5⟩
 self:=fun _ _ _ _ _ st h => wpAny_pyIter_tupleiter st h
theorem kac_ {P:Program} {w:World} {K:PySem.W.Frag} {tg:Expr} (it:Addr) (lo:Int) (n:Nat):Turn P w K tg (Itr lo n) [it] it (fun i h => IsRangeIter h it (lo + (i:Nat) * 1) ((n:Int) - (i:Nat)) 1) where
 mem:=by simp
 obj:=fun i h st b hb => by
   have e:b = it:=by simpa using hb
   subst e
   exact ⟨_,st,fun v z => by
     have z':Data.fields _ = Data.cell v:=z
     cases z'⟩
 keep:=fun i h h' st k => k it (by simp) _ st
 item:=by
   intro X hP hw hK hc i pins s σ H E I hf st hg
   subst hP hw hK
   (refine DX.x0_6 (hf it (by simp)) ?_; rintro f0 f1 f2 f3 f4 f5)
   have W:=Walks.range (prog:=X.prog) (w:=X.w) (I.ok.hd hc) it lo 1 n
   refine W.item i s _ _ hg st fun v h' tk hv st' kk => ?_
   obtain ⟨t,rfl⟩:=hv
   have I1:Inv X pins σ H { s with heap:=h',toks:=tk }:=I.turned (fun b o hb e => kk b o (by simpa using hb) e) f0 f1 f3 f4 f5
   refine ⟨_,rfl,xap_ (s:={ s with heap:=h',toks:=tk }) (n:="range_iterator") st' rfl rfl (by decide) ⟨.int (lo + i),H,I1,⟨t,?_⟩,⟨rfl,rfl⟩,st',fun b hb => (hf b hb).1⟩⟩
   rw [Int.mul_one]
 done:=by
   intro X hP hw hK hc i pins s σ H E I hf st hg
   subst hP hw hK
   (refine DX.x0_6 (hf it (by simp)) ?_; rintro f0 f1 f2 f3 f4 f5)
   exact wpAny_pyNext_range_end (I.ok.hd hc) st (by have:n ≤ i:=hg; omega) fun h' eb => ⟨rfl,I.turned (t':=s.toks) (fun b o hb e => eb b o hb e) f0 f1 f3 f4 f5⟩
 self:=fun _ _ _ _ _ st h => wpAny_pyIter_rangeiter st h
end L2
namespace L2
open PySem PySem.Spec PyProof.Rows
section
variable {X:Cx} {tg:Expr}
theorem y9_ {pins:List (Addr × Obj)} {σ:St} {H:Hp} {s:Shared} {R:It→Hp→Prop} {E:Value→Shared→Prop} {lo hi:Int} {t u v:Tok} {tk:Nat} (I:Inv X pins σ H s) (h1:-(2 ^ 62) ≤ lo) (h2:lo < 2 ^ 62) (h3:-(2 ^ 62) ≤ hi) (h4:hi < 2 ^ 62)
   (q:R (Itr lo (hi - lo).toNat) H):wpAny (model X.prog X.w) X.A (pyIter (.ref s.heap.objs.size)) (PIE X pins σ tg R) E { s with heap:=s.heap.push { cls:=.type "range",data:=.fields #[.int lo t,.int hi u,.int 1 v] },toks:=tk }:=by
 refine wpAny_pyIter_range (IsRange.new ..) (small_one h1 h2 h3 h4) ?_
 have I1:Inv X pins σ H { s with heap:=s.heap.push { cls:=.type "range",data:=.fields #[.int lo t,.int hi u,.int 1 v] },toks:=tk }:=I.kept fun b o e => Heap.get?_push_of_some _ e
 refine ⟨(s.heap.push { cls:=.type "range",data:=.fields #[.int lo t,.int hi u,.int 1 v] }).objs.size,[(s.heap.push { cls:=.type "range",data:=.fields #[.int lo t,.int hi u,.int 1 v] }).objs.size],_,_,H,rfl,
   I1.kept (t':=tk) fun b o e => Heap.get?_push_of_some _ e,kac_ _ lo (hi - lo).toNat,?_,fun b hb => ?_,q⟩
 · have e1:lo + ((0:Nat):Int) * 1 = lo:=by simp
   have e2:(((hi - lo).toNat:Nat):Int) - ((0:Nat):Int) = Builtin.Range.rangeSize lo hi 1:=by rw [rangeSize_one]; split <;> omega
   show IsRangeIter _ _ (lo + ((0:Nat):Int) * 1) ((((hi - lo).toNat:Nat):Int) - ((0:Nat):Int)) 1
   rw [e1,e2]
   exact Heap.get?_push_size _ rfl
 · have e:b = (s.heap.push { cls:=.type "range",data:=.fields #[.int lo t,.int hi u,.int 1 v] }).objs.size:=by simpa using hb
   subst e
   exact I1.fpOk (Nat.le_refl _) (I1.hok.fresh (Nat.le_refl _))
noncomputable def zbi_ (ta:TA):TI:=fun σ H R => ta σ H fun vs H1 => ∃ j:Int,vs = [.int j] ∧ -(2 ^ 62) ≤ j ∧ j < 2 ^ 62 ∧ R (Itr 0 j.toNat) H1
noncomputable def ybi_ (ta:TA):TI:=fun σ H R => ta σ H fun vs H1 => ∃ i j:Int,vs = [.int i,.int j] ∧ (-(2 ^ 62) ≤ i ∧ i < 2 ^ 62 ∧ -(2 ^ 62) ≤ j ∧ j < 2 ^ 62) ∧ R (Itr i (j - i).toNat) H1
theorem kag_ {a:Expr} {ta:TA} {p pos:Pos} (hg:Gl X "range") (hm:X.mg "range" = none) (ha:PA X [a] ta) (hs:autoParam (starEach [a] X.env = [(false,eval a X.env)]) au1._auto_1):PI X tg (.Call (.Name "range" p) [a] [] pos) (zbi_ ta):=by
 intro pins s σ H R I h
 refine Call_ (j0_ I hg hm boot_range (PyProof.Rows.callWith_type1 (thn (ha pos pins s σ H _ I h) fun us s1 ⟨vs,H1,I1,r1,q1⟩ => ?_) hs rfl))
 (refine DX.x1_4 q1 ?_; try clear q1; rintro j e q1 q2 q)
 subst e
 cases r1 with
 | cons r rr =>
   cases rr
   obtain ⟨t,rfl⟩:=r
   exact call_range_1 (y9_ I1 (by omega) (by omega) q1 q2 (by simpa using q))
theorem vag_ {a b:Expr} {ta:TA} {p pos:Pos} (hg:Gl X "range") (hm:X.mg "range" = none) (ha:PA X [a,b] ta) (hs:autoParam (starEach [a,b] X.env = [(false,eval a X.env),(false,eval b X.env)]) au1._auto_1) (hs2:autoParam (starEach [b] X.env = [(false,eval b X.env)]) au1._auto_1) :
   PI X tg (.Call (.Name "range" p) [a,b] [] pos) (ybi_ ta):=by
 intro pins s σ H R I h
 refine Call_ (j0_ I hg hm boot_range (PyProof.Rows.callWith_type1 (thn (ha pos pins s σ H _ I h) fun us s1 ⟨vs,H1,I1,r1,q1⟩ => ?_) (by rw [hs,hs2]) (by rw [hs2]; rfl)))
 (refine DX.x2_3 q1 ?_; try clear q1; rintro i j e ⟨q1,q2,q3,q4⟩ q)
 subst e
 cases r1 with
 | cons r rr =>
   cases rr with
   | cons r' rr =>
     cases rr
     obtain ⟨t,rfl⟩:=r
     obtain ⟨t',rfl⟩:=r'
     exact call_range_2 (y9_ I1 q1 q2 q3 q4 q)
noncomputable def tFor (wi:TI) (g:TG) (tb:TS):TS:=fun D σ H => wi σ H fun J H1 => ∃ W:Nat→Nat→St→Hp→Prop,(∃ m,W 0 m σ H1) ∧ ∀ i m σ H,W i m σ H →
 (J.stop i H ∧ D.nx σ H) ∨ (J.go i H ∧ ∃ N:St→Hp→Prop,(∀ σ' H',N σ' H'→∃ m',m' < m ∧ W (i + 1) m' σ' H') ∧ ∀ x H',J.yld i H x H'→g x σ H' fun σ2 H2 => tb { D with nx:=N,ct:=N,bk:=D.nx } σ2 H2)
noncomputable def wu_ (fp:List Addr) (h:Heap):List (Addr × Obj):=fp.filterMap fun b => (h.get? b).map fun o => (b,o)
theorem xg_ {fp:List Addr} {h:Heap} {b:Addr} {o:Obj} (hb:b ∈ fp) (e:h.get? b = some o):(b,o) ∈ wu_ fp h:=List.mem_filterMap.mpr ⟨b,hb,by rw [e]; rfl⟩
theorem uag_ {fp:List Addr} {h:Heap} {p:Addr × Obj} (hp:p ∈ wu_ fp h):p.1 ∈ fp ∧ h.get? p.1 = some p.2:=by
 (refine DX.x1_2 (List.mem_filterMap.mp hp) ?_; rintro b hb e)
 cases q:h.get? b with
 | none => rw [q] at e; cases e
 | some o =>
   rw [q] at e
   have e':(b,o) = p:=Option.some.inj e
   subst e'
   exact ⟨hb,q⟩
theorem Inv.pinned {pins:List (Addr × Obj)} {σ:St} {H:Hp} {s:Shared} {fp:List Addr} (I:Inv X pins σ H s) (hf:∀ b ∈ fp,FpOk X pins H b) (ho:∀ b ∈ fp,∃ o,s.heap.get? b = some o ∧ ∀ v,o.data ≠ .cell v):Inv X (pins ++ wu_ fp s.heap) σ H s :=
 I.pins_of fun p hp => (List.mem_append.mp hp).elim (fun z => I.pin p (List.mem_append_right _ z)) fun z => by
   obtain ⟨hb,e⟩:=uag_ z
   (refine DX.x0_4 (hf p.1 hb) ?_; rintro f0 f1 f2 _)
   (refine DX.x1_2 (ho p.1 hb) ?_; rintro o e' d)
   rw [e] at e'; cases e'
   exact ⟨e,f0,f1,f2,d⟩
theorem Inv.unpinned {pins pl:List (Addr × Obj)} {σ:St} {H:Hp} {s:Shared} (I:Inv X (pins ++ pl) σ H s):Inv X pins σ H s:=I.pins_of fun p hp => I.pin p (List.mem_append_right _ (List.mem_append_left _ hp))
theorem va8_ {iter:Expr} {body:List Stmt} {wi:TI} {g:TG} {tb:TS} {pos:Pos} (hp:PassesOwn (model X.prog X.w) X.A X.env X.xe) (hc:X.calm = true) (hi:PI X tg iter wi) (hg:PG X tg g) (hb:PSs X body tb)
   (hs:autoParam (∀ x,foldedSetIterable iter X.env x = pure x) au3._auto_1):PS X (.For tg iter body [] pos) (tFor wi g tb):=by
 intro pins s σ H D I h
 refine wpAny_For (thn (hi pins s σ H _ I h) fun v s1 h1 => thn h1 fun itv s2 h2 => ?_) hs
 obtain ⟨it,fp,tn,J,H2,e,I2,T,st2,f2,W,⟨m0,w0⟩,turn⟩:=h2
 subst e
 have stat:∀ {H':Hp},(∀ b ∈ fp,H' b = none)→∀ b ∈ fp,FpOk X pins H' b:=fun hn b hb => ⟨hn b hb,(f2 b hb).2⟩
 refine codeAny_forLoop_any (fun n s' => ∃ i σ' H',Inv X pins σ' H' s' ∧ tn i s'.heap ∧ (∀ b ∈ fp,H' b = none) ∧ W i n σ' H') ?_ m0 ⟨0,σ,H2,I2,st2,fun b hb => (f2 b hb).1,w0⟩
 rintro n s3 ⟨i,σ3,H3,I3,st3,fr3,w3⟩
 rcases turn i n σ3 H3 w3 with ⟨stop,qn⟩ | ⟨go,N,hN,step⟩
 · refine wpAny_passesOwn hp (thn (T.done X rfl rfl rfl hc i pins s3 σ3 H3 X.xe I3 (stat fr3) st3 stop) fun r s4 ⟨hr,I4⟩ => ?_)
   subst hr
   exact wpAny_execs_nil ⟨σ3,H3,I4,qn⟩
 · refine wpAny_passesOwn hp (thn (T.item X rfl rfl rfl hc i pins s3 σ3 H3 X.xe I3 (stat fr3) st3 go) fun r s4 ⟨u,hr,h4⟩ => ?_)
   subst hr
   refine wpAny_passesOwn hp (thn h4 fun _ s5 ⟨x,H5,I5,r5,y5,st5,fr5⟩ => ?_)
   have I5':=I5.pinned (stat fr5) (T.obj _ _ st5)
   refine wpAny_passesOwn hp (thn (hg _ s5 σ3 H5 x u _ I5' r5 (step x H5 y5)) fun _ s6 ⟨σ6,H6,I6,q6⟩ => ?_)
   refine wpAny_passesOwn hp (thn (hb _ s6 σ6 H6 _ I6 q6) fun f s7 q7 => ?_)
   have again:∀ {σ7:St} {H7:Hp},Inv X (pins ++ wu_ fp s5.heap) σ7 H7 s7→N σ7 H7→∃ m,m < n ∧ ∃ i σ' H',Inv X pins σ' H' s7 ∧ tn i s7.heap ∧ (∀ b ∈ fp,H' b = none) ∧ W i m σ' H':=fun {σ7 H7} I7 n7 => by
     (refine DX.x1_2 (hN σ7 H7 n7) ?_; rintro m' hm w7)
     refine ⟨m',hm,i + 1,σ7,H7,I7.unpinned,T.keep _ _ _ st5 fun b hb o e => (I7.pin (b,o) (List.mem_append_right _ (List.mem_append_right _ (xg_ hb e)))).1,fun b hb => ?_,w7⟩
     (refine DX.x1_2 (T.obj _ _ st5 b hb) ?_; rintro o e d)
     exact (I7.pin (b,o) (List.mem_append_right _ (List.mem_append_right _ (xg_ hb e)))).2.1
   cases f with
   | next => (refine DX.x2_2 q7 ?_; try clear q7; rintro σ7 H7 I7 n7); exact again I7 n7
   | cont => (refine DX.x2_2 q7 ?_; try clear q7; rintro σ7 H7 I7 n7); exact again I7 n7
   | brk => (refine DX.x2_2 q7 ?_; try clear q7; rintro σ7 H7 I7 q7); exact ⟨σ7,H7,I7.unpinned,q7⟩
   | ret v => (refine DX.x3_3 q7 ?_; try clear q7; rintro x7 σ7 H7 I7 r7 q7); exact ⟨x7,σ7,H7,I7.unpinned,r7,q7⟩
end
end L2
namespace L2
open PySem PySem.Spec PyProof.Rows
noncomputable abbrev R2:=V→V→Hp→VK→Prop
noncomputable def OpR (X:Cx) (f:Value→Value→Sem Value) (r:R2):Prop :=
 ∀ (pins:List (Addr × Obj)) (s:Shared) (σ:St) (H:Hp) (x y:V) (v u:Value) (Q:VK),Inv X pins σ H s→RelV x v→RelV y u→r x y H Q →
   wpAny (model X.prog X.w) X.A (f v u) (EP X pins σ Q) X.xe s
noncomputable def UnR (X:Cx) (f:Value→Sem Value) (r:V→Hp→VK→Prop):Prop :=
 ∀ (pins:List (Addr × Obj)) (s:Shared) (σ:St) (H:Hp) (x:V) (v:Value) (Q:VK),Inv X pins σ H s→RelV x v→r x H Q →
   wpAny (model X.prog X.w) X.A (f v) (EP X pins σ Q) X.xe s
noncomputable def wo_ (X:Cx) (f:Value) (r:List V→Hp→VK→Prop):Prop :=
 ∀ (pins:List (Addr × Obj)) (s:Shared) (σ:St) (H:Hp) (xs:List V) (us:List Value) (Q:VK),Inv X pins σ H s→Vals xs us→r xs H Q →
   wpAny (model X.prog X.w) X.A (call f us) (EP X pins σ Q) X.xe s
noncomputable def TruR (X:Cx) (r:V→Hp→(Bool→Hp→Prop)→Prop):Prop :=
 ∀ (pins:List (Addr × Obj)) (s:Shared) (σ:St) (H:Hp) (x:V) (v:Value) (Q:Bool→Hp→Prop),Inv X pins σ H s→RelV x v→r x H Q →
   wpAny (model X.prog X.w) X.A (truthy v) (TP X pins σ Q) X.xe s
noncomputable def tOp (r:R2) (ta tb:TE):TE:=fun σ H Q => ta σ H fun x H1 => tb σ H1 fun y H2 => r x y H2 Q
noncomputable def tUn (r:V→Hp→VK→Prop) (ta:TE):TE:=fun σ H Q => ta σ H fun x H1 => r x H1 Q
noncomputable def rI (C:Int→Int→Prop) (g:Int→Int→V):R2:=fun x y H Q => ∃ i j,x = .int i ∧ y = .int j ∧ C i j ∧ Q (g i j) H
noncomputable def rI0 (g:Int→Int→V):R2:=fun x y H Q => ∃ i j,x = .int i ∧ y = .int j ∧ Q (g i j) H
noncomputable def rU (g:Int→V):V→Hp→VK→Prop:=fun x H Q => ∃ i,x = .int i ∧ Q (g i) H
section
variable {X:Cx} {a b c:Expr} {ta tb tc:TE} {pos:Pos}
theorem binT (ha:PE X a ta) (hb:PE X b tb) {pins:List (Addr × Obj)} {s:Shared} {σ:St} {H:Hp} {R:V→V→Hp→Prop} (I:Inv X pins σ H s)
   (h:ta σ H fun x H1 => tb σ H1 fun y H2 => R x y H2) {Q:Value→Shared→Prop} {f:Value→Value→Sem Value}
   (hf:∀ v u s2 x y H2,Inv X pins σ H2 s2→RelV x v→RelV y u→R x y H2→wpAny (model X.prog X.w) X.A (f v u) Q X.xe s2) :
   wpAny (model X.prog X.w) X.A (eval a X.env) (fun v s₁ => wpAny (model X.prog X.w) X.A (eval b X.env) (fun u s₂ => wpAny (model X.prog X.w) X.A (f v u) Q X.xe s₂) X.xe s₁) X.xe s:=by
 refine thn (ha pins s σ H _ I h) fun v s1 ⟨x,H1,I1,r1,q1⟩ => ?_
 refine thn (hb pins s1 σ H1 _ I1 q1) fun u s2 ⟨y,H2,I2,r2,q2⟩ => ?_
 exact hf v u s2 x y H2 I2 r1 r2 q2
theorem xbi_ {op:Operator} {r:R2} (ho:OpR X (binaryOp op) r) (ha:PE X a ta) (hb:PE X b tb):PE X (.BinOp a op b pos) (tOp r ta tb):=by
 intro pins s σ H Q I h
 exact wpAny_BinOp (binT ha hb I h fun v u s2 x y H2 I2 rx ry q => ho pins s2 σ H2 x y v u Q I2 rx ry q)
theorem ua8_ {op:UnaryOp} {r:V→Hp→VK→Prop} (ho:UnR X (unaryOp op) r) (ha:PE X a ta):PE X (.UnaryOp op a pos) (tUn r ta):=by
 intro pins s σ H Q I h
 exact UnaryOp_ (thn (ha pins s σ H _ I h) fun v s1 ⟨x,H1,I1,r1,q1⟩ => ho pins s1 σ H1 x v Q I1 r1 q1)
theorem opI {f:Value→Value→Sem Value} {C:Int→Int→Prop} {g:Int→Int→Int}
   (rule:∀ (i j:Int) (t u:Tok) (s:Shared) (Q:Value→Shared→Prop) (E:Value→Shared→Prop),C i j→Q (.int (g i j) s.toks) { s with toks:=s.toks + 1 }→wpAny (model X.prog X.w) X.A (f (.int i t) (.int j u)) Q E s) :
   OpR X f (rI C fun i j => .int (g i j)):=by
 intro pins s σ H x y v u Q I rx ry h
 (refine DX.x2_4 h ?_; try clear h; rintro i j rfl rfl hc q)
 obtain ⟨t,rfl⟩:=rx
 obtain ⟨t',rfl⟩:=ry
 exact rule i j t t' s _ _ hc ⟨.int (g i j),H,I.tok _,⟨_,rfl⟩,q⟩
theorem opI0 {f:Value→Value→Sem Value} {g:Int→Int→Int}
   (rule:∀ (i j:Int) (t u:Tok) (s:Shared) (Q:Value→Shared→Prop) (E:Value→Shared→Prop),Q (.int (g i j) s.toks) { s with toks:=s.toks + 1 }→wpAny (model X.prog X.w) X.A (f (.int i t) (.int j u)) Q E s) :
   OpR X f (rI0 fun i j => .int (g i j)):=by
 intro pins s σ H x y v u Q I rx ry h
 (refine DX.x2_3 h ?_; try clear h; rintro i j rfl rfl q)
 obtain ⟨t,rfl⟩:=rx
 obtain ⟨t',rfl⟩:=ry
 exact rule i j t t' s _ _ ⟨.int (g i j),H,I.tok _,⟨_,rfl⟩,q⟩
theorem opB0 {f:Value→Value→Sem Value} {g:Int→Int→Bool}
   (rule:∀ (i j:Int) (t u:Tok) (s:Shared) (Q:Value→Shared→Prop) (E:Value→Shared→Prop),Q (.bool (g i j)) s→wpAny (model X.prog X.w) X.A (f (.int i t) (.int j u)) Q E s) :
   OpR X f (rI0 fun i j => .bl (g i j)):=by
 intro pins s σ H x y v u Q I rx ry h
 (refine DX.x2_3 h ?_; try clear h; rintro i j rfl rfl q)
 obtain ⟨t,rfl⟩:=rx
 obtain ⟨t',rfl⟩:=ry
 exact rule i j t t' s _ _ ⟨.bl (g i j),H,I,rfl,q⟩
noncomputable def CDiv (i j:Int):Prop:=0 < j ∧ j < 1073741824
noncomputable def CMul (i j:Int):Prop:=(-(2 ^ 64) < i ∧ i < 2 ^ 64) ∨ (-(2 ^ 64) < j ∧ j < 2 ^ 64)
theorem CMul.ok {i j:Int} (h:CMul i j):IntMulOk i j:=by
 rcases h with ⟨h1,h2⟩ | ⟨h1,h2⟩
 · exact .of_left (intBits_le_64 h1 h2)
 · exact .of_right (intBits_le_64 h1 h2)
theorem qa8_:OpR X (binaryOp .Add) (rI0 fun i j => .int (i + j)):=opI0 fun _ _ _ _ _ _ _ q => add_int q
theorem za9_:OpR X (binaryOp .Sub) (rI0 fun i j => .int (i - j)):=opI0 fun _ _ _ _ _ _ _ q => sub_int q
theorem ya9_:OpR X (binaryOp .Mult) (rI CMul fun i j => .int (i * j)):=opI fun _ _ _ _ _ _ _ hc q => mul_int q hc.ok
theorem xaz_:OpR X (binaryOp .FloorDiv) (rI CDiv fun i j => .int (i / j)):=opI fun i j _ _ _ _ _ hc q => by
 have h1:(0:Int) < j:=hc.1
 have h2:j < 1073741824:=hc.2
 exact floordiv_int (by omega) (by rw [Int.fdiv_eq_ediv_of_nonneg i (by omega)]; exact q) (.inl (PyProof.noPylong_small (by omega)))
theorem xa9_:OpR X (binaryOp .Mod) (rI (fun _ j => 0 < j) fun i j => .int (i % j)):=opI fun i j _ _ _ _ _ hc q => by
 have h1:(0:Int) < j:=hc
 exact mod_int' (by omega) (by rw [Int.fmod_eq_emod_of_nonneg i (by omega)]; exact q)
theorem unI {f:Value→Sem Value} {g:Int→Int}
   (rule:∀ (i:Int) (t:Tok) (s:Shared) (Q:Value→Shared→Prop) (E:Value→Shared→Prop),Q (.int (g i) s.toks) { s with toks:=s.toks + 1 }→wpAny (model X.prog X.w) X.A (f (.int i t)) Q E s) :
   UnR X f (rU fun i => .int (g i)):=by
 intro pins s σ H x v Q I rx h
 (refine DX.x1_2 h ?_; try clear h; rintro i rfl q)
 obtain ⟨t,rfl⟩:=rx
 exact rule i t s _ _ ⟨.int (g i),H,I.tok _,⟨_,rfl⟩,q⟩
theorem uav_:UnR X (unaryOp .USub) (rU fun i => .int (-i)):=unI fun _ _ _ _ _ q => neg_int q
end
section
variable {X:Cx} {a b c:Expr} {ta tb tc:TE} {pos:Pos}
theorem wa9_ {pins:List (Addr × Obj)} {σ:St} {H:Hp} {s:Shared} {Q:VK} {k k':Bool} (I:Inv X pins σ H s) (q:Q (.bl k) H) (e:k = k'):EP X pins σ Q (.bool k') s:=by
 subst e
 exact ⟨.bl k,H,I,rfl,q⟩
theorem wbi_:OpR X (compareOp .Lt) (rI0 fun i j => .bl (decide (i < j))):=opB0 fun _ _ _ _ _ _ _ q => lt_int q
theorem jbi_:OpR X (compareOp .LtE) (rI0 fun i j => .bl (decide (i ≤ j))):=opB0 fun _ _ _ _ _ _ _ q => le_int q
theorem kbi_:OpR X (compareOp .Gt) (rI0 fun i j => .bl (decide (j < i))):=opB0 fun _ _ _ _ _ _ _ q => gt_int q
theorem qag_:OpR X (compareOp .In) (fun x y H Q => ∃ i j,x = .str i ∧ y = .str j ∧ Q (.bl (!(Builtin.Str.occurrences j i 0 j.length 1).isEmpty)) H):=by
 intro pins s σ H x y v u Q I rx ry h
 (refine DX.x2_3 h ?_; try clear h; rintro i j rfl rfl q)
 obtain ⟨t,rfl⟩:=rx
 obtain ⟨t',rfl⟩:=ry
 exact in_str (wa9_ I q rfl)
theorem xc_ (b:Expr) {op:CmpOp} (h:autoParam (op ≠ .In) au2._auto_1) (h2:autoParam (op ≠ .NotIn) au2._auto_1):behindInMarks op b = false:=by
 have e1:(op == CmpOp.In) = false:=by cases op <;> first | rfl | exact absurd rfl h
 have e2:(op == CmpOp.NotIn) = false:=by cases op <;> first | rfl | exact absurd rfl h2
 cases b <;> simp [behindInMarks,e1,e2]
theorem waz_ {op:CmpOp} {r:R2} (ho:OpR X (compareOp op) r) (ha:PE X a ta) (hb:PE X b tb) (hm:behindInMarks op b = false):PE X (.Compare a [op] [b] pos) (tOp r ta tb):=by
 intro pins s σ H Q I h
 exact wpAny_Compare1 (binT ha hb I h fun v u s2 x y H2 I2 rx ry q => ho pins s2 σ H2 x y v u Q I2 rx ry q) hm
noncomputable def ja9_ (t:TE):TT:=fun σ H Q => t σ H fun x H' => ∃ k,x = .bl k ∧ Q k H'
theorem jaz_ {op:CmpOp} {r:R2} (ho:OpR X (compareOp op) r) (ha:PE X a ta) (hb:PE X b tb) (hm:behindInMarks op b = false):PT X (.Compare a [op] [b] pos) (ja9_ (tOp r ta tb)):=by
 intro pins s σ H Q I h
 refine wpAny_isTrue_Compare1 (thn (ha pins s σ H _ I h) fun v s1 ⟨x,H1,I1,r1,q1⟩ => thn (hb pins s1 σ H1 _ I1 q1) fun u s2 ⟨y,H2,I2,r2,q2⟩ =>
   thn (ho pins s2 σ H2 x y v u _ I2 r1 r2 q2) fun c s3 ⟨z,H3,I3,r3,k,e,q3⟩ => ?_) hm
 subst e
 cases r3
 exact wpAny_truthy_bool ⟨H3,I3,q3⟩
noncomputable def qav_ (r r':R2) (ta tb tc:TE):TE:=fun σ H Q => ta σ H fun x H1 => tb σ H1 fun y H2 => r x y H2 fun z H3 => ∃ k,z = .bl k ∧
 (if k = true then tc σ H3 fun w' H4 => r' y w' H4 Q else Q (.bl false) H3)
theorem wap_ {op op':CmpOp} {r r':R2} (ho:OpR X (compareOp op) r) (ho':OpR X (compareOp op') r') (ha:PE X a ta) (hb:PE X b tb) (hc:PE X c tc)
   (hm:autoParam (lastMarks [op,op'] [b,c] = false) au7._auto_1):PE X (.Compare a [op,op'] [b,c] pos) (qav_ r r' ta tb tc):=by
 intro pins s σ H Q I h
 refine Compare_chain (thn (ha pins s σ H _ I h) fun v s1 ⟨x,H1,I1,r1,q1⟩ => chain_link (thn (hb pins s1 σ H1 _ I1 q1) fun u s2 ⟨y,H2,I2,r2,q2⟩ =>
   thn (ho pins s2 σ H2 x y v u _ I2 r1 r2 q2) fun d s3 ⟨z,H3,I3,r3,k,e,q3⟩ => ?_)) hm
 subst e
 cases r3
 refine wpAny_truthy_bool ?_
 cases k with
 | false => exact ite_ff ⟨.bl false,H3,I3,rfl,q3⟩
 | true => exact ite_tt (chain_last (thn (hc pins s3 σ H3 _ I3 q3) fun w' s4 ⟨z',H4,I4,r4,q4⟩ => ho' pins s4 σ H4 y z' u w' Q I4 r2 r4 q4))
theorem jap_ {op op':CmpOp} {r r':R2} (ho:OpR X (compareOp op) r) (ho':OpR X (compareOp op') r') (ha:PE X a ta) (hb:PE X b tb) (hc:PE X c tc)
   (hm:autoParam (lastMarks [op,op'] [b,c] = false) au7._auto_1):PT X (.Compare a [op,op'] [b,c] pos) (ja9_ (qav_ r r' ta tb tc)):=by
 intro pins s σ H Q I h
 refine isTrue_chain (thn (ha pins s σ H _ I h) fun v s1 ⟨x,H1,I1,r1,q1⟩ => test_link (thn (hb pins s1 σ H1 _ I1 q1) fun u s2 ⟨y,H2,I2,r2,q2⟩ =>
   thn (ho pins s2 σ H2 x y v u _ I2 r1 r2 q2) fun d s3 ⟨z,H3,I3,r3,k,e,q3⟩ => ?_)) hm
 subst e
 cases r3
 refine wpAny_truthy_bool ?_
 cases k with
 | false =>
   (refine DX.x1_2 q3 ?_; try clear q3; rintro k' e' q')
   cases e'
   exact ite_ff ⟨H3,I3,q'⟩
 | true =>
   refine ite_tt (test_last (thn (hc pins s3 σ H3 _ I3 q3) fun w' s4 ⟨z',H4,I4,r4,q4⟩ => thn (ho' pins s4 σ H4 y z' u w' _ I4 r2 r4 q4) fun d' s5 ⟨z2,H5,I5,r5,k2,e2,q5⟩ => ?_))
   subst e2
   cases r5
   exact wpAny_truthy_bool ⟨H5,I5,q5⟩
noncomputable def TruV (K:PySem.W.Frag) (x:V) (H:Hp) (k:Bool):Prop :=
 match x with
 | .non => k = false
 | .bl b => k = b
 | .int i => k = (i != 0)
 | .str y => y.length ≤ sizeLine ∧ k = ((y.length:Int) != 0)
 | .byt y => y.size ≤ sizeLine ∧ k = ((y.size:Int) != 0)
 | .ref p => (∃ xs,SqL K H p xs ∧ k = !xs.isEmpty) ∨ (∃ xs,SqT K H p xs ∧ k = !xs.isEmpty) ∨ ∃ kvs,H p = some (.dK kvs) ∧ k = !kvs.isEmpty
 | _ => False
theorem vac_ {κ:Type} {kvs:List (κ × V)} {vs:List (κ × Value)} (r:KV kvs vs):(!vs.isEmpty) = !kvs.isEmpty:=by
 cases r <;> rfl
theorem ju_ {xs:List V} {its:List Value} (r:Vals xs its):(!its.toArray.isEmpty) = !xs.isEmpty:=by
 cases r <;> simp
theorem ku_:(sizeLine:Nat) < 2 ^ 63:=by rw [sizeLine_eq]; decide
theorem ka9_:TruR X (fun x H Q => ∃ k,TruV X.K x H k ∧ Q k H):=by
 intro pins s σ H x v Q I rx h
 (refine DX.x1_2 h ?_; try clear h; rintro k e q)
 have hl:=ku_
 have hs:sizeLine = 16777216:=sizeLine_eq
 cases x with
 | non =>
   cases rx
   have e':k = false:=e
   subst e'
   exact truthy_none ⟨H,I,q⟩
 | bl b =>
   cases rx
   have e':k = b:=e
   subst e'
   exact wpAny_truthy_bool ⟨H,I,q⟩
 | int i =>
   obtain ⟨t,rfl⟩:=rx
   have e':k = (i != 0):=e
   subst e'
   exact PySem.P.truthy_int ⟨H,I,q⟩
 | str y =>
   obtain ⟨t,rfl⟩:=rx
   obtain ⟨hy,e'⟩:y.length ≤ sizeLine ∧ k = ((y.length:Int) != 0):=e
   subst e'
   exact PySem.P.truthy_str (by omega) ⟨H,I.tok _,q⟩
 | byt y =>
   obtain ⟨t,rfl⟩:=rx
   obtain ⟨hy,e'⟩:y.size ≤ sizeLine ∧ k = ((y.size:Int) != 0):=e
   subst e'
   exact PySem.W.truthy_bytes (by omega) ⟨H,I.tok _,q⟩
 | ref p =>
   cases rx
   have e':(∃ xs,SqL X.K H p xs ∧ k = !xs.isEmpty) ∨ (∃ xs,SqT X.K H p xs ∧ k = !xs.isEmpty) ∨ ∃ kvs,H p = some (.dK kvs) ∧ k = !kvs.isEmpty:=e
   rcases e' with ⟨xs,hx,e'⟩ | ⟨xs,hx,e'⟩ | ⟨kvs,hx,e'⟩
   · subst e'
     (refine DX.x1_3 (I.list hx) ?_; rintro its r pl hz)
     have hlen:=r.length
     exact wpAny_truthy_list pl.isList (by simp only [List.size_toArray]; omega) ⟨H,I.tok _,by rw [ju_ r]; exact q⟩
   · subst e'
     (refine DX.x1_3 (I.tuple hx) ?_; rintro its r pl hz)
     have hlen:=r.length
     exact truthy_tuple pl (by simp only [List.size_toArray]; omega) ⟨H,I.tok _,by rw [ju_ r]; exact q⟩
   · subst e'
     obtain ⟨hz,hS,vs,r,m⟩:kvs.length ≤ sizeLine ∧ (p == sysModules) = false ∧ ∃ vs,KV kvs vs ∧ s.heap.DictOf (v5_ X.prog X.w) p vs:=I.hok p _ hx
     have hlen:kvs.length = vs.length:=Paired.length r
     exact wpAny_truthy_dict hS m (by omega) ⟨H,I.tok _,by rw [vac_ r]; exact q⟩
 | _ => exact (show False from e).elim
theorem kap_ (ha:PE X a ta) (he:∀ whole,isTrue a X.env whole = (do let v ← whole; standAt a.pos; holding [v] (truthy v))) :
   PT X a (fun σ H Q => ta σ H fun x H' => ∃ k,TruV X.K x H' k ∧ Q k H'):=by
 intro pins s σ H Q I h
 exact isTrue_plain (thn (ha pins s σ H _ I h) fun v s1 ⟨x,H1,I1,r1,q1⟩ => ka9_ pins s1 σ H1 x v Q I1 r1 q1) (he _)
theorem uac_:OpR X (binaryOp .Add) (fun x y H Q => ∃ i j,x = .str i ∧ y = .str j ∧ i.length + j.length ≤ sizeLine ∧ Q (.str (i ++ j)) H):=by
 intro pins s σ H x y v u Q I rx ry h
 (refine DX.x2_4 h ?_; try clear h; rintro i j rfl rfl hz q)
 obtain ⟨t,rfl⟩:=rx
 obtain ⟨t',rfl⟩:=ry
 exact add_str (fun t' tk => ⟨.str (i ++ j),H,I.tok _,⟨_,rfl⟩,q⟩) hz
theorem yq_ {x:V} {us:List Value} (r:Vals [x] us):∃ u,us = [u] ∧ RelV x u:=by
 cases r with
 | cons r1 r2 => cases r2; exact ⟨_,rfl,r1⟩
theorem vbi_ {x y:V} {us:List Value} (r:Vals [x,y] us):∃ u w',us = [u,w'] ∧ RelV x u ∧ RelV y w':=by
 cases r with
 | cons r1 r2 =>
   cases r2 with
   | cons r3 r4 => cases r4; exact ⟨_,_,rfl,r1,r3⟩
theorem k0_:wo_ X (.type "str") (fun xs H Q => ∃ i,xs = [.int i] ∧ i.natAbs.log2 < 1920 ∧ Q (.str (toString i)) H):=by
 intro pins s σ H xs us Q I r h
 (refine DX.x1_3 h ?_; try clear h; rintro i rfl hz q)
 obtain ⟨u,rfl,t,rfl⟩:=yq_ r
 exact PySem.P.str_of_int hz ⟨.str _,H,I.tok _,⟨_,rfl⟩,q⟩
end
end L2
namespace L2
open PySem PySem.Spec PyProof.Rows
section
variable {prog:Program} {w:World} {A:Around} {E:Value→Shared→Prop} {s:Shared} {K:PySem.W.Frag} {x dx C f:Addr} {mA:Str→Option Value} {name:Str} {v:Value}
end
section
variable {P:Program} {w:World} {H H':Hp} {h h':Heap} {a C dx:Addr} {fs fs':List (Str × V)}
end
section
variable {X:Cx} {pins:List (Addr × Obj)} {σ:St} {H:Hp} {s:Shared} {a C dx:Addr} {fs:List (Str × V)} {f:Str} {v:V} {A:Around} {E:Value→Shared→Prop}
end
section
variable {X:Cx} {o e value:Expr} {f:Str} {pos pos' tpos:Pos} {ta tv:TE}
end
section
variable {X:Cx} {pins:List (Addr × Obj)} {σ:St} {H:Hp} {s:Shared} {A:Around} {E:Value→Shared→Prop} {Q:Value→Shared→Prop} {c:Value} {b:Bool}
end
end L2
namespace L2
open PySem PySem.Spec PyProof.Rows
structure Room (k:Nat) (A:Around):Prop where
 hd:A.handled = none
 dp:A.depth + 3 * k + 5 < recursionLimit
 un:A.units + 16 * k + 200 < cLine
theorem Room.mono {j k:Nat} {A:Around} (r:Room k A) (h:j ≤ k):Room j A:=⟨r.hd,by have:=r.dp; omega,by have:=r.un; omega⟩
theorem Room.deeper {k:Nat} {A:Around} (r:Room (k + 1) A) (env:Env):Room k (A.deeper env) :=
 ⟨r.hd,by have:=r.dp; show A.depth + 1 + 3 * k + 5 < _; omega,by have:=r.un; show A.units + 3 + 16 * k + 200 < _; omega⟩
theorem Room.depth {k:Nat} {A:Around} (r:Room k A):A.depth < recursionLimit:=by have:=r.dp; omega
theorem Room.units {k:Nat} {A:Around} (r:Room k A):A.units + 64 < cLine:=by have:=r.un; omega
theorem Room.units0 {k:Nat} {A:Around} (r:Room k A):A.units < cLine:=by have:=r.un; omega
noncomputable def tNil:TA:=fun _ H Q => Q [] H
noncomputable def zah_ (ta:TE) (tr:TA):TA:=fun σ H Q => ta σ H fun x H1 => tr σ H1 fun xs H2 => Q (x :: xs) H2
section
variable {X:Cx} {e:Expr} {es:List Expr} {te:TE} {t:TA} {pos:Pos}
theorem xr_:PA X [] tNil:=fun _ _ _ _ H Q I h => Calls.spliced_nil ⟨[],H,I,.nil,h⟩
theorem vj_ (ha:PE X e te) (hr:PA X es t) (hs:autoParam (starEach (e :: es) X.env = (false,eval e X.env) :: starEach es X.env) au1._auto_1):PA X (e :: es) (zah_ te t):=by
 intro pos pins s σ H Q I h
 rw [hs]
 show wpAny _ _ (spliced ((false,eval e X.env) :: backTo pos (starEach es X.env))) _ _ s
 refine Calls.spliced_cons (thn (ha pins s σ H _ I h) fun u s1 ⟨x,H1,I1,r1,q1⟩ => ?_)
 exact thn (hr pos pins s1 σ H1 _ I1 q1) fun us s2 ⟨xs,H2,I2,r2,q2⟩ => ⟨x :: xs,H2,I2,.cons r1 r2,q2⟩
noncomputable def tTup (t:TA):TE:=fun σ H Q => t σ H fun xs H1 => xs.length ≤ sizeLine ∧ ∀ p,H1 p = none→Q (.ref p) (upd H1 p (.tup xs))
noncomputable def tLst (t:TA):TE:=fun σ H Q => t σ H fun xs H1 => xs.length ≤ sizeLine ∧ ∀ p,H1 p = none→Q (.ref p) (upd H1 p (.lst xs))
theorem va9_ {x1} (h:PA X es t):PE X (.Tuple es x1 pos) (tTup t):=by
 intro pins s σ H Q I hq
 refine wpAny_Tuple_spliced (thn (h pos pins s σ H _ I hq) fun us s1 ⟨xs,H1,I1,r,z,q⟩ => ⟨by rw [← r.length]; exact z,?_⟩)
 have hf:H1 s1.heap.objs.size = none:=I1.hok.fresh (Nat.le_refl _)
 refine ⟨.ref s1.heap.objs.size,upd H1 s1.heap.objs.size (.tup xs),I1.laid (t':=s1.toks) (fun b u e => Heap.get?_push_of_some _ e) (Nat.le_refl _) ?_,rfl,q _ hf⟩
 exact ⟨z,us,r,⟨_,Heap.get?_push_size _ rfl,rfl,_,rfl⟩⟩
theorem zaw_ (h:PA X es t):PE X (.List es pos) (tLst t):=by
 intro pins s σ H Q I hq
 refine wpAny_List_spliced (thn (h pos pins s σ H _ I hq) fun us s1 ⟨xs,H1,I1,r,z,q⟩ => ⟨by rw [← r.length]; exact z,?_⟩)
 have hf:H1 s1.heap.objs.size = none:=I1.hok.fresh (Nat.le_refl _)
 refine ⟨.ref s1.heap.objs.size,upd H1 s1.heap.objs.size (.lst xs),I1.laid (t':=s1.toks) (fun b u e => Heap.get?_push_of_some _ e) (Nat.le_refl _) ?_,rfl,q _ hf⟩
 exact ⟨z,us,0,r,Heap.get?_push_size _ rfl⟩
end
noncomputable abbrev Sp:=List V→Hp→VK→XK→Prop
noncomputable abbrev CXT:=List Env→Hp→Shared→XK→Value→Shared→Prop
structure Env0 (P:Program) (w:World) (K:PySem.W.Frag) (mg:Str→Option Value) (base:Heap) (A:Around) (outer:List Env) (s:Shared) (H:Hp):Prop where
 frames:A.frames = some outer
 mod:Mod K mg base
 bs:∀ b o,base.get? b = some o→s.heap.get? b = some o ∧ H b = none
 bsz:base.objs.size ≤ s.heap.objs.size
 funs:s.heap.FunFrames base outer
 frf:∀ b ∈ frs outer,H b = none
 hok:HOk P w H s.heap
 bare:AllBare s.gens
noncomputable def CE (outer:List Env) (P:Program) (w:World) (H:Hp) (s:Shared) (Q:VK) (u:Value) (s':Shared):Prop :=
 ∃ v H',s'.os = s.os ∧ AllBare s'.gens ∧ Un (frs outer) [] H H' s.heap s'.heap ∧ HOk P w H' s'.heap ∧ RelV v u ∧ Q v H'
noncomputable def CR (CX:CXT) (outer:List Env) (P:Program) (w:World) (H:Hp) (s:Shared) (Q:VK) (E:XK) (r:Result) (s':Shared):Prop :=
 match r with
 | .ok (.ret u) => CE outer P w H s Q u s'
 | .ok _ => False
 | .error e => CX outer H s E e s'
structure FnOk (P:Program) (w:World) (K:PySem.W.Frag) (mg:Str→Option Value) (base:Heap) (CX:CXT) (k:Nat) (f:Addr) (fd:FuncData) (ps:List Str) (sp:Sp):Prop where
 len:∀ vs H Q E,sp vs H Q E→vs.length = ps.length
 run:∀ (A:Around) (outer:List Env) (s:Shared) (H:Hp) (args:Args) (us:List Value) (vs:List V) (Q:VK) (E:XK),Room k A→Env0 P w K mg base A outer s H→BindsTo s fd args (ps.zip us)→Vals vs us→sp vs H Q E →
   codeAny (model P w) A (.call (.ref f) args) (CR CX outer P w H s Q E) s
theorem FnOk.imp {P:Program} {w:World} {K:PySem.W.Frag} {mg:Str→Option Value} {base:Heap} {CX:CXT} {k:Nat} {f:Addr} {fd:FuncData} {ps:List Str} {sp sp':Sp} (F:FnOk P w K mg base CX k f fd ps sp)
   (h:∀ vs H Q E,sp' vs H Q E→sp vs H Q E):FnOk P w K mg base CX k f fd ps sp' :=
 ⟨fun vs H Q E q => F.len vs H Q E (h _ _ _ _ q),fun A outer s H args us vs Q E hr he hb hv hs => F.run A outer s H args us vs Q E hr he hb hv (h _ _ _ _ hs)⟩
section
variable {X:Cx} {pins:List (Addr × Obj)} {σ:St} {H:Hp} {s s':Shared}
theorem Inv.env0 (I:Inv X pins σ H s):Env0 X.prog X.w X.K X.mg X.base X.A X.stack s H :=
 ⟨I.ok.frames,I.ok.mod,I.bs,Nat.le_trans I.ok.bsz I.sz,I.stack,I.stkFree,I.hok,I.bare⟩
theorem Inv.after {Q:VK} {u:Value} (I:Inv X pins σ H s) (h:CE X.stack X.prog X.w H s Q u s'):EP X pins σ Q u s':=by
 (refine DX.x2_6 h ?_; try clear h; rintro v H' os bare un hok r q)
 obtain ⟨hh,g,d,t,os'⟩:=s'
 obtain rfl:os' = s.os:=os
 exact ⟨v,H',I.call (h':=hh) (g':=g) (d':=d) (t':=t) (ch:=[]) un hok bare (fun b z => absurd z (by simp)),r,q⟩
end
noncomputable def y6_ (K:PySem.W.Frag) (fd:FuncData) (ps:List Str) (ds:List Value):Prop :=
 ∀ (s:Shared) (us:List Value),K.In s.heap→(us ++ ds).length = ps.length→BindsTo s fd ⟨us,[]⟩ (ps.zip (us ++ ds))
theorem y6_.all {K:PySem.W.Frag} {fd:FuncData} {ps:List Str} (h:∀ us:List Value,us.length = ps.length→bindArgs fd ⟨us,[]⟩ = pure (ps.zip us)):y6_ K fd ps []:=fun s us _ hl => by
 rw [List.append_nil] at hl ⊢
 exact .of_eq (h us hl)
noncomputable def ua9_ (CX:CXT) (X:Cx) (E:XK):Prop:=∀ (pins:List (Addr × Obj)) (σ:St) (H:Hp) (s:Shared) (e:Value) (s':Shared),Inv X pins σ H s→CX X.stack H s E e s'→X.xe e s'
section
variable {X:Cx} {CX:CXT} {k:Nat} {f C:Addr} {fd:FuncData} {ps:List Str} {sp:Sp} {dvs:List V} {ds:List Value} {E:XK} {x m:Str} {p pos apos:Pos} {e o:Expr} {es:List Expr} {ta:TE} {t:TA}
end
section
variable {X:Cx} {CX:CXT} {k:Nat} {f C:Addr} {fd:FuncData} {ps ks:List Str} {sp:Sp} {E:XK} {x m:Str} {p pos apos kpos:Pos} {e o:Expr} {es:List Expr} {kws:List Keyword} {te ta:TE} {t tk:TA} {nm:Option Str}
variable {g:List Value→List Value→List Value} {gV:List V→List V→List V}
end
structure FnScope (N P:List Str) (sc:Scope):Prop where
 kind:sc.kind = .function
 co:sc.isCoroutine = false
 gen:sc.isGenerator = false
 nd:N.Nodup
 pre:N.take P.length = P
 par:∀ x ∈ P,sc.names.lookup x = some .local ∨ sc.names.lookup x = some .cell
 nofree:∀ y ∈ sc.names,y.2 ≠ .free
theorem v0_ {kindOf:Str→Option NameKind} {x:Str}:∀ {binds:List (Str × Value)} {m:Str→Option Value},(∀ v,(x,v) ∉ binds)→bindL kindOf binds m x = m x
 | [],_,_ => rfl
 | (n,v) :: r,m,h => by
   unfold bindL
   rw [v0_ fun w hw => h w (List.mem_cons_of_mem _ hw)]
   split
   · have:x ≠ n:=by rintro rfl; exact h v List.mem_cons_self
     simp [this]
   · rfl
theorem u0_ {kindOf:Str→Option NameKind} {x:Str}:∀ {binds:List (Str × Value)} {m:Str→Option Value},(∀ v,(x,v) ∉ binds)→bindC kindOf binds m x = m x
 | [],_,_ => rfl
 | (n,v) :: r,m,h => by
   unfold bindC
   rw [u0_ fun w hw => h w (List.mem_cons_of_mem _ hw)]
   split
   · rfl
   · have:x ≠ n:=by rintro rfl; exact h v List.mem_cons_self
     simp [this]
theorem q0_ {kindOf:Str→Option NameKind} {x:Str} {v:Value}:∀ {P:List Str} {vs:List Value} {i:Nat} {m:Str→Option Value},P.Nodup→P[i]? = some x→vs[i]? = some v→kindOf x = some .local →
   bindL kindOf (P.zip vs) m x = some v
 | [],_,_,_,_,h,_,_ => by simp at h
 | _ :: _,[],_,_,_,_,h,_ => by simp at h
 | p :: P,w :: vs,0,m,nd,h1,h2,hk => by
   simp at h1 h2; subst h1; subst h2
   show bindL kindOf ((p,w) :: P.zip vs) m p = _
   unfold bindL
   rw [v0_ fun v hv => (List.nodup_cons.mp nd).1 (List.of_mem_zip hv).1,if_pos hk]
   simp
 | p :: P,w :: vs,i + 1,m,nd,h1,h2,hk => by
   show bindL kindOf ((p,w) :: P.zip vs) m x = _
   unfold bindL
   exact q0_ (i:=i) (List.nodup_cons.mp nd).2 (by simpa using h1) (by simpa using h2) hk
theorem z1_ {kindOf:Str→Option NameKind} {x:Str} {v:Value}:∀ {P:List Str} {vs:List Value} {i:Nat} {m:Str→Option Value},P.Nodup→P[i]? = some x→vs[i]? = some v→kindOf x ≠ some .local →
   bindC kindOf (P.zip vs) m x = some v
 | [],_,_,_,_,h,_,_ => by simp at h
 | _ :: _,[],_,_,_,_,h,_ => by simp at h
 | p :: P,w :: vs,0,m,nd,h1,h2,hk => by
   simp at h1 h2; subst h1; subst h2
   show bindC kindOf ((p,w) :: P.zip vs) m p = _
   unfold bindC
   rw [u0_ fun v hv => (List.nodup_cons.mp nd).1 (List.of_mem_zip hv).1,if_neg hk]
   simp
 | p :: P,w :: vs,i + 1,m,nd,h1,h2,hk => by
   show bindC kindOf ((p,w) :: P.zip vs) m x = _
   unfold bindC
   exact z1_ (i:=i) (List.nodup_cons.mp nd).2 (by simpa using h1) (by simpa using h2) hk
noncomputable def xq_ (N:List Str) (vs:List V):St:=vs.map some ++ List.replicate (N.length - vs.length) none
noncomputable def cxOf (CX:CXT) (P:Program) (w:World) (K:PySem.W.Frag) (mg:Str→Option Value) (base:Heap) (N:List Str) (qual:Str) (scope:Scope) (f:Addr) (cd:Value) (A:Around) (outer:List Env) (s:Shared) (H:Hp) (E:XK):Cx where
 prog:=P
 w:=w
 K:=K
 mg:=mg
 base:=base
 A:=A.deeper (envOfC qual scope s.heap.objs.size f cd)
 N:=N
 s₀:=s
 H₀:=H
 env:=envOfC qual scope s.heap.objs.size f cd
 outer:=outer
 stack:=envOfC qual scope s.heap.objs.size f cd :: outer
 ex:=[]
 calm:=true
 fn:=fun _ => true
 pn:=[]
 xe:=fun e s' => wpAny (model P w) (A.deeper (envOfC qual scope s.heap.objs.size f cd)) (leaving (envOfC qual scope s.heap.objs.size f cd) e) (fun _ s'' => CX outer H s E e s'') (fun e' s'' => CX outer H s E e' s'') s'
theorem x9_ {sc:Scope} {n:Nat} {x:Str} (h:sc.names.lookup x = some .cell):∃ c,(cellsFrom n sc.names []).lookup x = some c:=by
 have q:=PySem.W.cellsFrom_some sc.names n [] (.inl h)
 exact Option.isSome_iff_exists.mp q
theorem yah_ {CX:CXT} {P:Program} {w:World} {K:PySem.W.Frag} {mg:Str→Option Value} {base:Heap} {N ps:List Str} {qual:Str} {scope:Scope} {f:Addr} {cd:Value} {A:Around} {outer:List Env} {s s1:Shared} {H:Hp} {E:XK} {us:List Value} {vs:List V}
   (S:FnScope N ps scope) (hd:A.handled = none) (e0:Env0 P w K mg base A outer s H) (hl:vs.length = ps.length) (r:Vals vs us)
   (x:InCallC s s.heap.objs.size (bindL (envOfC qual scope s.heap.objs.size f cd).kindOf (ps.zip us) fun _ => none) (cellsFrom (s.heap.objs.size + 1) scope.names []) (bindC (envOfC qual scope s.heap.objs.size f cd).kindOf (ps.zip us) fun _ => none) s1) :
   Inv (cxOf CX P w K mg base N qual scope f cd A outer s H E) [] (xq_ N vs) H s1:=by
 have hpl:ps.length ≤ N.length:=by have:=congrArg List.length S.pre; rw [List.length_take] at this; omega
 (refine DX.x2_2 x.done ?_; rintro h1 tk rfl hk)
 have noA:∀ b:Addr,b ∉ (cxOf CX P w K mg base N qual scope f cd A outer s H E).ex:=fun b z => absurd (show b ∈ ([]:List Addr) from z) (by simp)
 refine ⟨⟨e0.mod,S.kind,rfl,rfl,Nat.le_refl _,fun y z c h1 h2 => ?_,fun y hy => ?_,fun y c _ h => ?_,fun _ => hd,Around.frames_deeper e0.frames,.inr ⟨rfl,rfl⟩,fun b z => absurd z (noA b),e0.bs,e0.bsz,fun b _ _ => noA b,fun b z => absurd z (noA b),e0.funs,e0.frf⟩,
   rfl,e0.bare,Un.kept hk,⟨_,x.toInCall.ns,fun i y v h1 h2 h3 => ?_⟩,fun y c h => ⟨_,x.cell y c h⟩,e0.hok.fresh (Nat.le_refl _),fun y c h => ?_,fun p hp => absurd (show p ∈ ([]:List (Addr × Obj)) from hp) (by simp),e0.hok.kept hk,?_⟩
 · exact name_of_addr x.apart (PySem.mem_of_lookup h1) (PySem.mem_of_lookup h2)
 · have hy:scope.names.lookup y = some .cell ∨ scope.names.lookup y = some .free:=hy
   rcases hy with hy | hy
   · exact x9_ hy
   · exact absurd rfl (S.nofree _ (PySem.mem_of_lookup hy))
 · exact Nat.le_of_lt (x.above y c (PySem.mem_of_lookup h))
 · have hi:i < vs.length:=by
     unfold xq_ at h2
     by_cases hi:i < vs.length
     · exact hi
     · rw [List.getElem?_append_right (by simpa using hi)] at h2
       rw [List.getElem?_replicate] at h2
       split at h2 <;> cases h2
   have ha:vs[i]? = some v:=by
     unfold xq_ at h2
     rw [List.getElem?_append_left (by simpa using hi),List.getElem?_map] at h2
     cases e:vs[i]? with
     | none => rw [e] at h2; cases h2
     | some a => rw [e] at h2; cases h2; rfl
   (refine DX.x1_2 (r.get ha) ?_; rintro u hu rv)
   have hp:ps[i]? = some y:=by
     rw [← S.pre,List.getElem?_take_of_lt (by omega)]; exact h1
   have ndP:ps.Nodup:=by rw [← S.pre]; exact S.nd.sublist (List.take_sublist _ _)
   refine ⟨u,rv,?_⟩
   rcases S.par y (List.mem_of_getElem? hp) with k | k
   · exact .inl ⟨k,q0_ ndP hp hu k⟩
   · obtain ⟨c,e⟩:=x9_ (n:=s.heap.objs.size + 1) k
     refine .inr ⟨.inl k,c,e,?_⟩
     have q:=x.cell y c e
     rw [z1_ ndP hp hu (by show scope.names.lookup y ≠ _; rw [k]; decide)] at q
     exact q
 · exact e0.hok.fresh (Nat.le_of_lt (x.above y c (PySem.mem_of_lookup h)))
 · unfold xq_
   show _ = N.length
   rw [List.length_append,List.length_map,List.length_replicate]
   omega
theorem ubi_ {CX:CXT} {P:Program} {w:World} {K:PySem.W.Frag} {mg:Str→Option Value} {base:Heap} {k:Nat} {f:Addr} {name qual:Str} {params:Arguments} {body:List Stmt} {scope:Scope} {dV kV doc pm cdv ct oc:Value} {an od:Option Addr}
   {osl:Array (Option Value)} {N ps:List Str} {sp:Sp} (lk:K.lookup f = some ⟨oc,od,.func (PySem.W.fnOf name qual params body scope dV kV doc pm an cdv ct),osl⟩) (hcd:PySem.W.codeIn K cdv qual = true) (S:FnScope N ps scope)
   (len:∀ vs H Q E,sp vs H Q E→vs.length = ps.length)
   (hbody:∀ (A:Around) (outer:List Env) (s:Shared) (H:Hp) (vs:List V) (Q:VK) (E:XK),Room k (A.deeper (envOfC qual scope s.heap.objs.size f cdv))→sp vs H Q E →
     ∃ t,PSs (cxOf CX P w K mg base N qual scope f cdv A outer s H E) body t ∧ t { nx:=fun _ H' => Q .non H',rt:=Q } (xq_ N vs) H) :
   FnOk P w K mg base CX (k + 1) f (PySem.W.fnOf name qual params body scope dV kV doc pm an cdv ct) ps sp:=by
 refine ⟨len,fun A outer s H args us vs Q E hr e0 hb r hsp => ?_⟩
 have hl:=len _ _ _ _ hsp
 have KX:K.In s.heap:=e0.mod.kin.keeps fun b o e => (e0.bs b o e).1
 have lim:s.heap.NoLimit:=e0.mod.nolimit.keeps fun b o e => (e0.bs b o e).1
 have hkind:∀ y ∈ ps.zip us,scope.names.lookup y.1 = some .local ∨ (scope.names.lookup y.1 = some .cell ∧ ((cellsFrom (s.heap.objs.size + 1) scope.names []).lookup y.1).isSome = true):=fun ⟨n,v⟩ hy => by
   rcases S.par n (List.of_mem_zip hy).1 with q | q
   · exact .inl q
   · exact .inr ⟨q,PySem.W.cellsFrom_some _ _ _ (.inl q)⟩
 refine codeAny_call_function hr.depth (KX _ _ lk) rfl S.co S.gen rfl (PySem.W.codeRec_of KX hcd) (hb _ _ _ _ ?_)
 refine wpAny_newFunctionEnv_cells S.kind hkind fun env he s1 x => ?_
 subst he
 refine ⟨lim.keeps x.toInCall.keep,codeAny_func ?_⟩
 (refine DX.x1_2 (hbody A outer s H vs Q E (hr.deeper _) hsp) ?_; rintro t ht hq)
 have I:Inv (cxOf CX P w K mg base N qual scope f cdv A outer s H E) [] (xq_ N vs) H s1:=yah_ S hr.hd e0 hl r x
 refine wpAny_mono (ht [] s1 (xq_ N vs) H _ I hq) (fun fl s' hs => ?_) fun e s' hs => hs
 have fin:∀ {σ':St} {H':Hp} {v:V} {u:Value},Inv (cxOf CX P w K mg base N qual scope f cdv A outer s H E) [] σ' H' s'→RelV v u→Q v H'→CE outer P w H s Q u s' :=
   fun {σ' H' v u} J rv q => ⟨v,H',J.os,J.bare,J.base,J.hok,rv,q⟩
 cases fl with
 | ret u =>
   (refine DX.x3_3 hs ?_; try clear hs; rintro v σ' H' J rv q)
   exact fin J rv q
 | next =>
   (refine DX.x2_2 hs ?_; try clear hs; rintro σ' H' J q)
   exact fin (v:=V.non) (u:=Value.none) J rfl q
 | brk =>
   (refine DX.x2_2 hs ?_; try clear hs; rintro _ _ _ q)
   exact False.elim q
 | cont =>
   (refine DX.x2_2 hs ?_; try clear hs; rintro _ _ _ q)
   exact False.elim q
end L2
namespace L2
open PySem PySem.Spec PyProof.Rows
section
variable {X:Cx} {x:Str} {p pos:Pos} {e:Expr} {es:List Expr} {t:TA} {id T:String} {r:List V→Hp→VK→Prop}
noncomputable def tCB (r:List V→Hp→VK→Prop) (t:TA):TE:=fun σ H Q => t σ H fun vs H1 => r vs H1 Q
theorem w9_ (hc:wo_ X (.builtin id) r) (hg:Gl X x) (hm:X.mg x = none) (hv:bootBuiltins x = some (.builtin id)) (ha:PA X (e :: es) t) (hn:autoParam (x ≠ "__name__") au2._auto_1) (hdb:autoParam ((x == ("__debug__":Str)) = false) au2._auto_1)
   (he:autoParam (starEach (e :: es) X.env = (false,eval e X.env) :: starEach es X.env) au1._auto_1) (hpl:autoParam ((backTo pos (starEach es X.env)).any (·.1) = false) au1._auto_1):PE X (.Call (.Name x p) (e :: es) [] pos) (tCB r t):=by
 intro pins s σ H Q I h
 refine wpAny_Call_Name_kw (j0_ I hg hm hv ?_ hn hdb)
 exact PyProof.Rows.callWith_builtin1 (thn (ha pos pins s σ H _ I h) fun us s1 ⟨vs,H1,I1,r1,q1⟩ => hc pins s1 σ H1 vs us Q I1 r1 q1) he hpl
theorem xah_ (hc:wo_ X (.type T) r) (hg:Gl X x) (hm:X.mg x = none) (hv:bootBuiltins x = some (.type T)) (ha:PA X (e :: es) t) (hn:autoParam (x ≠ "__name__") au2._auto_1) (hdb:autoParam ((x == ("__debug__":Str)) = false) au2._auto_1)
   (he:autoParam (starEach (e :: es) X.env = (false,eval e X.env) :: starEach es X.env) au1._auto_1) (hpl:autoParam ((backTo pos (starEach es X.env)).any (·.1) = false) au1._auto_1):PE X (.Call (.Name x p) (e :: es) [] pos) (tCB r t):=by
 intro pins s σ H Q I h
 refine wpAny_Call_Name_kw (j0_ I hg hm hv ?_ hn hdb)
 exact PyProof.Rows.callWith_type1 (thn (ha pos pins s σ H _ I h) fun us s1 ⟨vs,H1,I1,r1,q1⟩ => hc pins s1 σ H1 vs us Q I1 r1 q1) he hpl
end
end L2
namespace HT
open PySem PyProof.Rows
noncomputable def lexLt:List Int→List Int→Bool
 | [],[] => false
 | [],_ :: _ => true
 | _ :: _,[] => false
 | x :: xs,y :: ys => if x = y then lexLt xs ys else decide (x < y)
theorem vu_ (x y:Int) (xs ys:List Int):lexLt (x :: xs) (y :: ys) = if x = y then lexLt xs ys else decide (x < y):=rfl
theorem xx_:lexLt [] [] = false:=rfl
theorem jt_ (y:Int) (ys:List Int):lexLt [] (y :: ys) = true:=rfl
theorem kt_ (x:Int) (xs:List Int):lexLt (x :: xs) [] = false:=rfl
theorem vap_ (A:Around) (s:Shared) (a:Int) (t:Tok) (c:Int) (u:Tok):∃ e,SeqAt.EqAt A s (.int a t) (.int c u) e ∧ (e = true ↔ a = c) :=
 ⟨(a == c),SeqAt.EqAt.int_int a t c u,by simp⟩
theorem uap_ (A:Around) (s:Shared) (a:Int) (t:Tok) (c:Int) (u:Tok) (prog:Program) (w:World) (E:Value→Shared→Prop) (Q:Value→Shared→Prop) (h:Q (.bool (decide (a < c))) s) :
   wpAny (model prog w) A (richCompare .Lt (.int a t) (.int c u)) Q E s :=
 (PyProof.Rows.lt_int h:wpAny (model prog w) A (compareOp .Lt (.int a t) (.int c u)) Q E s)
section
open PySem.SeqAt
open PySem.AutoSeq1 (wpAny_loadPart')
open PySem.MeetsSeq PySem.MeetsSeq2 PySem.MeetsSeq3
theorem wx_ (l b:Addr) (ja_ items2:Array Value) (n n2:Nat) (dd dd2:Option Addr) (sl sl2:Array (Option Value)) (ns ms:List Int) (hi:IntsAre ja_.toList ns) (hj:IntsAre items2.toList ms) :
   Meets (Builtin.«tuple.__lt__» ⟨[.ref l,.ref b],[]⟩)
     (fun _ R s => s.heap.get? l = some { cls:=.type "tuple",dict:=dd,data:=.seq ja_ n,slots:=sl } ∧ s.heap.get? b = some { cls:=.type "tuple",dict:=dd2,data:=.seq items2 n2,slots:=sl2 } ∧
       R (.ok (.ret (.bool (lexLt ns ms)))) s) :=
 .of_wp fun prog w A R s h => by
   obtain ⟨hp,g,d,tk,os⟩:=s; (refine DX.x0_3 h ?_; try clear h; rintro hl hb h)
   have f2:=AutoSeq1.sub_tuple_tuple
   have z1:ja_.size = ns.length:=by rw [← hi.length]; simp
   have z2:items2.size = ms.length:=by rw [← hj.length]; simp
   wp_walk using wpAny_loadPart' hl,wpAny_loadPart' hb,wpAny_forIn_list _ (fun rest b s' => b.1 = none ∧ s' = ⟨hp,g,d,tk,os⟩ ∧ ∃ (vs ws:List Value) (ns' ms':List Int),rest = vs.zip ws ∧
     IntsAre vs ns' ∧ IntsAre ws ms' ∧ ns'.length + items2.size = ms'.length + ja_.size ∧ R (.ok (.ret (.bool (lexLt ns' ms')))) ⟨hp,g,d,tk,os⟩) _
   case turn =>
     rintro ⟨y,x⟩ rest b s' ⟨hb',rfl,vs,ws,ns',ms',hz,hvi,hwi,hlen,hR⟩
     cases hvi with
     | nil => rw [List.zip_nil_left] at hz; cases hz
     | cons a t hvi' =>
       cases hwi with
       | nil => rw [List.zip_nil_right] at hz; cases hz
       | cons c u hwi' =>
         rw [List.zip_cons_cons] at hz
         injection hz with hyx hrest
         injection hyx with hy hx
         subst hy hx
         rw [vu_] at hR
         simp only [List.length_cons] at hlen
         (refine DX.x1_2 (vap_ A.in1 ⟨hp,g,d,tk,os⟩ a t c u) ?_; rintro e he hiff)
         refine wpAny_bind (he prog w _ _ ?_)
         cases e with
         | true =>
           rw [if_pos (hiff.mp rfl)] at hR
           wp_walk
           exact ⟨rfl,rfl,_,_,_,_,hrest,hvi',hwi',by omega,hR⟩
         | false =>
           rw [if_neg (fun q => absurd (hiff.mpr q) Bool.false_ne_true)] at hR
           have hri:=uap_ A.in1 ⟨hp,g,d,tk,os⟩ a t c u prog w
           wp_walk using hri
           exact ⟨_,rfl,by simpa using hR⟩
   case fin =>
     rintro ⟨b1,b2⟩ s' ⟨hb',rfl,vs,ws,ns',ms',hz,hvi,hwi,hlen,hR⟩
     simp only at hb'
     subst hb'
     have hv:lexLt ns' ms' = decide (ja_.size < items2.size):=by
       cases hvi with
       | nil =>
         cases hwi with
         | nil =>
           simp only [List.length_nil] at hlen
           rw [xx_]
           exact (decide_eq_false (by omega)).symm
         | cons c u hw =>
           simp only [List.length_nil,List.length_cons] at hlen
           rw [jt_]
           exact (decide_eq_true (by omega)).symm
       | cons a t hv =>
         cases hwi with
         | nil =>
           simp only [List.length_nil,List.length_cons] at hlen
           rw [kt_]
           exact (decide_eq_false (by omega)).symm
         | cons c u hw =>
           rw [List.zip_cons_cons] at hz
           cases hz
     rw [hv] at hR
     wp_walk
     exact ⟨_,rfl,by simpa [Builtin.Tuple.tupleCompareSizes] using hR⟩
   case h =>
     exact ⟨rfl,rfl,ja_.toList,items2.toList,ns,ms,rfl,hi,hj,by omega,h⟩
end
section
variable {prog:Program} {w:World} {A:Around} {E:Value→Shared→Prop} {s:Shared}
theorem qac_ {l b:Addr} {ja_ items2:Array Value} {ns ms:List Int} {Q:Value→Shared→Prop} (hl:IsTup s.heap l ja_) (hb:IsTup s.heap b items2) (hi:IntsAre ja_.toList ns) (hj:IntsAre items2.toList ms)
   (hu:A.units < cLine) (h:Q (.bool (lexLt ns ms)) s):wpAny (model prog w) A (compareOp .Lt (.ref l) (.ref b)) Q E s:=by
 obtain ⟨⟨cls,dd,data,sl⟩,ho,hc,n,hd⟩:=id hl
 obtain ⟨⟨cls2,dd2,data2,sl2⟩,ho2,hc2,n2,hd2⟩:=id hb
 simp only at hc hd hc2 hd2
 subst hc hd hc2 hd2
 exact richCompare_meets_room (op:=.Lt) ⟨_,ho,rfl⟩ ⟨_,ho2,rfl⟩ PySem.F.slot_tuple_lt PySem.F.entry_tuple_lt (PySem.F.args_tuple_lt_2 _ _) (wx_ l b ja_ items2 n n2 dd dd2 sl sl2 ns ms hi hj)
   ⟨ho,ho2,show Value.bool (lexLt ns ms) ≠ Value.notImplemented ∧ Q (.bool (lexLt ns ms)) s from ⟨(fun x => nomatch x),h⟩⟩ hu
theorem kaz_ {t b:Addr} {vs ws:List Value} {Q:Value→Shared→Prop} (ht:IsTup s.heap t vs.toArray) (hb:IsTup s.heap b ws.toArray) (hv:vs ≠ [])
   (h1:ws = []→Q (.ref t) s) (h2:ws ≠ []→Q (.ref s.heap.objs.size) { s with heap:=s.heap.push { cls:=.type "tuple",data:=.seq (vs ++ ws).toArray } })
   (hsz:vs.length + ws.length ≤ sizeLine):wpAny (model prog w) A (binaryOp .Add (.ref t) (.ref b)) Q E s:=by
 obtain ⟨⟨cls,dd,data,sl⟩,ho,hc,n,hd⟩:=id ht
 obtain ⟨⟨cls2,dd2,data2,sl2⟩,ho2,hc2,n2,hd2⟩:=id hb
 simp only at hc hd hc2 hd2
 subst hc hd hc2 hd2
 have e:vs.toArray ++ ws.toArray = (vs ++ ws).toArray:=by simp
 by_cases hw:ws = []
 · exact concat_meets ⟨_,ho,rfl⟩ ⟨_,ho2,rfl⟩ noFill_tuple_add seq_tuple_add PySem.F.slot_tuple_add PySem.F.entry_tuple_add (PySem.F.args_tuple_add_2 _ _)
     (tuple_addW1 t b vs.toArray ws.toArray n n2 dd dd2 sl sl2 (by simpa using hv) (by simp [hw])) ⟨ho,ho2,h1 hw⟩
 · refine concat_meets ⟨_,ho,rfl⟩ ⟨_,ho2,rfl⟩ noFill_tuple_add seq_tuple_add PySem.F.slot_tuple_add PySem.F.entry_tuple_add (PySem.F.args_tuple_add_2 _ _)
     (tuple_addW2 t b vs.toArray ws.toArray n n2 dd dd2 sl sl2 (by simpa using hv) (by simpa using hw) (by rw [List.size_toArray,List.size_toArray]; exact hsz)) ⟨ho,ho2,?_⟩
   rw [e]
   exact h2 hw
noncomputable def sIx (n d:Nat):Option Int→Nat
 | none => d
 | some v => if v < 0 then (v + (n:Int)).toNat else min v.toNat n
theorem qa9_ (n d:Nat) (hd:d ≤ n) (o:Option Int):sIx n d o ≤ n:=by
 cases o with
 | none => exact hd
 | some v =>
   show (if v < 0 then (v + (n:Int)).toNat else min v.toNat n) ≤ n
   by_cases hv:v < 0
   · rw [if_pos hv]; omega
   · rw [if_neg hv]; exact Nat.min_le_right _ _
theorem wah_ (v:Int) (n d:Nat):(if v < 0 then max (v + (n:Int)) 0 else min v (n:Int)) = ((sIx n d (some v):Nat):Int):=by
 show (if v < 0 then max (v + (n:Int)) 0 else min v (n:Int)) = (((if v < 0 then (v + (n:Int)).toNat else min v.toNat n):Nat):Int)
 by_cases hv:v < 0
 · simp only [if_pos hv]; omega
 · simp only [if_neg hv]; omega
theorem zad_ (lo hi:Option Int) (n:Nat):Builtin.Slice.sliceAdjust lo hi 1 (n:Int) = (((sIx n 0 lo:Nat):Int),((sIx n n hi:Nat):Int)):=by
 have h1:¬ ((1:Int) < 0):=by omega
 unfold Builtin.Slice.sliceAdjust
 simp only [h1,if_false]
 refine Prod.ext ?_ ?_
 · cases lo with
   | none => rfl
   | some v => exact wah_ v n 0
 · cases hi with
   | none => rfl
   | some v => exact wah_ v n n
theorem yad_ (i j:Nat):Builtin.Slice.slicePlaces (i:Int) (j:Int) 1 = j - i:=by
 unfold Builtin.Slice.slicePlaces
 have h1:(1:Int) > 0:=by omega
 simp only [h1,if_true,Int.ediv_one]
 split <;> omega
theorem uu_ {v:Value} {o:Option Int} {Q:Option Int→Shared→Prop} (p:IsPart v o) (h:Q o s):wpAny (model prog w) A (Builtin.Slice.slicePartIndex v) Q E s:=by
 cases p with
 | none => exact slicePart_none h
 | int i t => exact slicePart_int h
theorem wj_ {sl:Addr} {vl vu:Value} {lo hi:Option Int} {n:Nat} {Q:Int × Int × Nat→Shared→Prop} (hs:s.heap.IsSliceOf sl vl vu .none) (pl:IsPart vl lo) (pu:IsPart vu hi)
   (h:Q (((sIx n 0 lo:Nat):Int),1,sIx n n hi - sIx n 0 lo) s):wpAny (model prog w) A (Builtin.Slice.sliceApplied (.ref sl) (pure (n:Int))) Q E s:=by
 (refine DX.x1_3 (id hs) ?_; rintro os hos hcs hds)
 unfold Builtin.Slice.sliceApplied Builtin.Slice.sliceFields
 refine wpAny_bind (wpAny_bind (wpAny_field hos hds (x:=vl) rfl (wpAny_bind (wpAny_field hos hds (x:=vu) rfl (wpAny_bind (wpAny_field hos hds (x:=.none) rfl (wpAny_pure ?_)))))))
 refine wpAny_bind (slicePart_none ?_)
 show wpAny _ _ (if ((1:Int) == 0) = true then _ else _) _ _ s
 rw [if_neg (by decide)]
 refine wpAny_bind (uu_ pl (wpAny_bind (uu_ pu (wpAny_bind (wpAny_pure ?_)))))
 show wpAny _ _ (match Builtin.Slice.sliceAdjust lo hi 1 (n:Int) with | (lo,hi) => pure (lo,(1:Int),Builtin.Slice.slicePlaces lo hi 1)) _ _ s
 rw [zad_ lo hi n]
 show wpAny _ _ (pure (((sIx n 0 lo:Nat):Int),(1:Int),Builtin.Slice.slicePlaces ((sIx n 0 lo:Nat):Int) ((sIx n n hi:Nat):Int) 1)) _ _ s
 rw [yad_]
 exact wpAny_pure h
theorem qap_ (xs:Array Value) (i k:Nat):((List.range k).filterMap fun (m:Nat) => xs[((i:Int) + (m:Int) * 1).toNat]?).toArray = ((xs.toList.drop i).take k).toArray:=by
 have e:(fun (m:Nat) => xs[((i:Int) + (m:Int) * 1).toNat]?) = fun m => xs[i + m]?:=by
   funext m
   have:((i:Int) + (m:Int) * 1).toNat = i + m:=by omega
   rw [this]
 rw [e]
 have:=pick_run xs i k
 rw [List.filterMap_map] at this
 have e2:((fun x => xs[x]?) ∘ fun x => i + x) = fun m => xs[i + m]?:=rfl
 rw [e2] at this
 rw [this]
theorem jo_ {t sl:Addr} {ja_:Array Value} {vl vu:Value} {lo hi:Option Int} {Q:Value→Shared→Prop} (ht:IsTup s.heap t ja_) (hs:s.heap.IsSliceOf sl vl vu .none) (pl:IsPart vl lo) (pu:IsPart vu hi)
   (hw:¬ (sIx ja_.size 0 lo = 0 ∧ sIx ja_.size ja_.size hi = ja_.size))
   (h:Q (.ref s.heap.objs.size) { s with heap:=s.heap.push { cls:=.type "tuple",data:=.seq ((ja_.toList.drop (sIx ja_.size 0 lo)).take (sIx ja_.size ja_.size hi - sIx ja_.size 0 lo)).toArray } })
   (hsz:ja_.size ≤ sizeLine):wpAny (model prog w) A (getItem (.ref t) (.ref sl)) Q E s:=by
 have htake:sizeOk (.seq ((ja_.toList.drop (sIx ja_.size 0 lo)).take (sIx ja_.size ja_.size hi - sIx ja_.size 0 lo)).toArray):=by
   show ((ja_.toList.drop (sIx ja_.size 0 lo)).take (sIx ja_.size ja_.size hi - sIx ja_.size 0 lo)).toArray.size ≤ sizeLine
   rw [List.size_toArray,List.length_take,List.length_drop,Array.length_toList]
   omega
 have hj:sIx ja_.size ja_.size hi ≤ ja_.size:=qa9_ _ _ (Nat.le_refl _) hi
 (refine DX.x1_3 (id hs) ?_; rintro os hos hcs hds)
 have hTs:s.TypeIs (.ref sl) "slice":=⟨os,hos,hcs⟩
 unfold getItem
 try with_reducible refine wpAny_holding ?_
 first | refine wpAny_bind (wpAny_pure ?_) | skip
 refine wpAny_bind (wpAny_sequenceKey ht.typeIs (by decide) ?_)
 refine wpAny_bind (wpAny_callSpecial?_slot (name:=Str.ofString "__getitem__") ht.typeIs PyProof.Rows.slot_tuple_getitem
   (wpAny_call_entry PyProof.Rows.slot_tuple_getitem ht.typeIs entry_tuple_getitem ?_ (args_tuple_getitem _ _)))
 show wpAny _ _ (Builtin.Tuple.tupleItemsOf (.ref t) >>= _) _ _ s
 refine wpAny_bind (tupleItemsOf_ ht ?_)
 refine wpAny_bind (wpAny_typeOf hTs ?_)
 rw [if_pos (by decide)]
 refine wpAny_bind (wj_ hs pl pu ?_)
 have hno:¬ ((((sIx ja_.size 0 lo:Nat):Int) == 0 && (1:Int) == 1 && (sIx ja_.size ja_.size hi - sIx ja_.size 0 lo) == ja_.size) = true):=by
   intro q
   rw [Bool.and_eq_true,Bool.and_eq_true] at q
   have q1:((sIx ja_.size 0 lo:Nat):Int) = 0:=eq_of_beq q.1.1
   have q2:sIx ja_.size ja_.size hi - sIx ja_.size 0 lo = ja_.size:=eq_of_beq q.2
   exact hw ⟨by omega,by omega⟩
 show wpAny _ _ (if (((sIx ja_.size 0 lo:Nat):Int) == 0 && (1:Int) == 1 && (sIx ja_.size ja_.size hi - sIx ja_.size 0 lo) == ja_.size) = true then _ else _) _ _ s
 rw [if_neg hno,qap_]
 first
   | exact wpAny_bind (m:=Builtin.Tuple.tupleExact _) (wpAny_newObj_type (wpAny_pure ⟨_,rfl,wpAny_pure h⟩) htake)
   | exact wpAny_bind (m:=Builtin.Tuple.tupleExact _) (wpAny_newObj_type (wpAny_bind (wpAny_pure (wpAny_pure ⟨_,rfl,wpAny_pure h⟩))) htake)
   | exact wpAny_bind (wpAny_bind (m:=Builtin.Tuple.tupleExact _) (wpAny_newObj_type (wpAny_pure (wpAny_pure ⟨_,rfl,wpAny_pure h⟩)) htake))
   | exact wpAny_bind (wpAny_bind (m:=Builtin.Tuple.tupleExact _) (wpAny_newObj_type (wpAny_pure ⟨_,rfl,wpAny_pure h⟩) htake))
end
end HT
namespace L2
open PySem PySem.Spec PyProof.Rows
noncomputable abbrev TO:=St→Hp→(Option Int→Hp→Prop)→Prop
noncomputable def PO (X:Cx) (e:Option Expr) (t:TO):Prop :=
 ∀ (pins:List (Addr × Obj)) (s:Shared) (σ:St) (H:Hp) (Q:Option Int→Hp→Prop),Inv X pins σ H s→t σ H Q →
   wpAny (model X.prog X.w) X.A (evalPart e X.env) (fun u s' => ∃ o H',Inv X pins σ H' s' ∧ IsPart u o ∧ Q o H') X.xe s
noncomputable def vaz_:TO:=fun _ H Q => Q none H
noncomputable def qbi_ (t:TE):TO:=fun σ H Q => t σ H fun x H1 => ∃ i,x = .int i ∧ Q (some i) H1
theorem qu_ {ns:List Int}:∀ {us:List Value},Vals (ns.map V.int) us→IntsAre us ns:=by
 induction ns with
 | nil => intro us r; rw [List.map_nil] at r; cases r; exact .nil
 | cons n ns ih =>
   intro us r
   rw [List.map_cons] at r
   cases r with
   | cons r1 r2 =>
     obtain ⟨t,e⟩:=r1
     subst e
     exact .cons n t (ih r2)
section
variable {X:Cx} {e:Expr} {te:TE} {lo hi:Option Expr} {tl th:TO} {pos p2:Pos}
theorem uaz_:PO X none vaz_:=by
 intro pins s σ H Q I h
 rw [evalPart_none]
 exact wpAny_pure ⟨none,H,I,.none,h⟩
theorem qaz_ (h:PE X e te):PO X (some e) (qbi_ te):=by
 intro pins s σ H Q I hw
 rw [evalPart_some]
 refine thn (h pins s σ H _ I hw) fun u s1 ⟨x,H1,I1,r1,q1⟩ => ?_
 (refine DX.x1_2 q1 ?_; try clear q1; rintro i rfl q)
 obtain ⟨t,rfl⟩:=r1
 exact ⟨some i,H1,I1,.int i t,q⟩
noncomputable def SlR (X:Cx) (r:V→Option Int→Option Int→Hp→VK→Prop):Prop :=
 ∀ (pins:List (Addr × Obj)) (s:Shared) (σ:St) (H:Hp) (x:V) (v vl vu:Value) (lo hi:Option Int) (sl:Addr) (Q:VK),Inv X pins σ H s→RelV x v→s.heap.IsSliceOf sl vl vu .none→IsPart vl lo→IsPart vu hi→r x lo hi H Q →
   ∃ T id,typeLookup (.type T) "__getitem__" = pure (some (.builtin id)) ∧ s.TypeIs v T ∧ wpAny (model X.prog X.w) X.A (getItem v (.ref sl)) (EP X pins σ Q) X.xe s
noncomputable def tSl (r:V→Option Int→Option Int→Hp→VK→Prop) (te:TE) (tl th:TO):TE:=fun σ H Q => te σ H fun x H1 => tl σ H1 fun l H2 => th σ H2 fun u H3 => r x l u H3 Q
theorem j9_ {r:V→Option Int→Option Int→Hp→VK→Prop} (hr:SlR X r) (he:PE X e te) (hl:PO X lo tl) (hu:PO X hi th):PE X (.Subscript e (.Slice lo hi none p2) pos) (tSl r te tl th):=by
 intro pins s σ H Q I h
 refine Subscript_ (thn (he pins s σ H _ I h) fun v s1 ⟨x,H1,I1,r1,q1⟩ => ?_)
 refine wpAny_Slice (thn (hl pins s1 σ H1 _ I1 q1) fun vl s2 ⟨l,H2,I2,pl,q2⟩ => thn (hu pins s2 σ H2 _ I2 q2) fun vu s3 ⟨u,H3,I3,pu,q3⟩ => ?_)
 rw [evalPart_none]
 refine wpAny_pure ?_
 have I4:Inv X pins σ H3 { s3 with heap:=s3.heap.push { cls:=.type "slice",data:=.fields #[vl,vu,.none] } }:=I3.kept (t':=s3.toks) fun b ob q => Heap.get?_push_of_some _ q
 (refine DX.x2_3 (hr pins { s3 with heap:=s3.heap.push { cls:=.type "slice",data:=.fields #[vl,vu,.none] } } σ H3 x v vl vu l u s3.heap.objs.size Q I4 r1 (Heap.IsSliceOf.new ..) pl pu q3) ?_; rintro T id hT ht hg)
 show wpAny (model X.prog X.w) X.A (subscriptTail e (.Slice lo hi none p2) v (.ref s3.heap.objs.size)) (EP X pins σ Q) X.xe { s3 with heap:=s3.heap.push { cls:=.type "slice",data:=.fields #[vl,vu,.none] } }
 exact tail_any (ops:=[.ref s3.heap.objs.size,v]) ht hT hg (by with_unfolding_all rfl)
noncomputable def cutV (xs:List V) (lo hi:Option Int):List V:=(xs.drop (HT.sIx xs.length 0 lo)).take (HT.sIx xs.length xs.length hi - HT.sIx xs.length 0 lo)
theorem wi_ (xs:List V) (lo hi:Option Int):(cutV xs lo hi).length ≤ xs.length:=by
 unfold cutV
 rw [List.length_take,List.length_drop]
 omega
noncomputable def rSlT (K:PySem.W.Frag):V→Option Int→Option Int→Hp→VK→Prop:=fun x lo hi H Q => ∃ a xs,x = .ref a ∧ SqT K H a xs ∧
 ¬ (HT.sIx xs.length 0 lo = 0 ∧ HT.sIx xs.length xs.length hi = xs.length) ∧ ∀ p,H p = none→Q (.ref p) (upd H p (.tup (cutV xs lo hi)))
theorem zba_:SlR X (rSlT X.K):=by
 intro pins s σ H x v vl vu lo hi sl Q I rx hs pl pu h
 (refine DX.x2_4 h ?_; try clear h; rintro a xs rfl hx hw q)
 cases rx
 (refine DX.x1_3 (I.tuple hx) ?_; rintro its r ht hz)
 have hlen:its.toArray.size = xs.length:=by rw [List.size_toArray]; exact r.length.symm
 refine ⟨"tuple",_,PyProof.Rows.slot_tuple_getitem.lookup,ht.typeIs,?_⟩
 refine HT.jo_ ht hs pl pu (by rw [hlen]; exact hw) ?_ (by rw [hlen]; exact hz)
 rw [hlen]
 refine ⟨.ref s.heap.objs.size,_,I.laid (t':=s.toks) (o:=.tup (cutV xs lo hi)) (fun b ob q => Heap.get?_push_of_some _ q) (Nat.le_refl _) ?_,rfl,q _ (I.hok.fresh (Nat.le_refl _))⟩
 exact ⟨Nat.le_trans (wi_ xs lo hi) hz,_,(r.drop (HT.sIx xs.length 0 lo)).take (HT.sIx xs.length xs.length hi - HT.sIx xs.length 0 lo),IsTup.new _ _⟩
noncomputable def rLtT (K:PySem.W.Frag):R2:=fun x y H Q => ∃ a b ns ms,x = .ref a ∧ y = .ref b ∧ SqT K H a (ns.map V.int) ∧ SqT K H b (ms.map V.int) ∧ Q (.bl (HT.lexLt ns ms)) H
theorem yba_ (hu:X.A.units < cLine):OpR X (compareOp .Lt) (rLtT X.K):=by
 intro pins s σ H x y v u Q I rx ry h
 (refine DX.x4_5 h ?_; try clear h; rintro a b ns ms rfl rfl ha hb q)
 cases rx
 cases ry
 (refine DX.x1_3 (I.tuple ha) ?_; rintro its r1 p1 _)
 (refine DX.x1_3 (I.tuple hb) ?_; rintro its2 r2 p2 _)
 have i1:IntsAre its.toArray.toList ns:=qu_ r1
 have i2:IntsAre its2.toArray.toList ms:=qu_ r2
 exact HT.qac_ p1 p2 i1 i2 hu ⟨.bl (HT.lexLt ns ms),H,I,rfl,q⟩
noncomputable def zbj_ (K:PySem.W.Frag):R2:=fun x y H Q => ∃ a b xs ys,x = .ref a ∧ y = .ref b ∧ SqT K H a xs ∧ SqT K H b ys ∧ xs ≠ [] ∧ xs.length + ys.length ≤ sizeLine ∧
 (ys = []→Q (.ref a) H) ∧ (ys ≠ []→∀ p,H p = none→Q (.ref p) (upd H p (.tup (xs ++ ys))))
theorem Vals.nil_iff {xs:List V} {us:List Value} (r:Vals xs us):us = [] ↔ xs = []:=by
 cases r with
 | nil => simp
 | cons _ _ => simp
theorem za0_:OpR X (binaryOp .Add) (zbj_ X.K):=by
 intro pins s σ H x y v u Q I rx ry h
 (refine DX.x4_8 h ?_; try clear h; rintro a b xs ys rfl rfl ha hb hx hz q1 q2)
 cases rx
 cases ry
 (refine DX.x1_3 (I.tuple ha) ?_; rintro its r1 p1 _)
 (refine DX.x1_3 (I.tuple hb) ?_; rintro its2 r2 p2 _)
 refine HT.kaz_ p1 p2 (fun z => hx (r1.nil_iff.mp z)) (fun z => ⟨.ref a,H,I,rfl,q1 (r2.nil_iff.mp z)⟩) (fun z => ?_) (by rw [← r1.length,← r2.length]; exact hz)
 refine ⟨.ref s.heap.objs.size,_,I.laid (t':=s.toks) (o:=.tup (xs ++ ys)) (fun b ob q => Heap.get?_push_of_some _ q) (Nat.le_refl _) ?_,rfl,q2 (fun w => z (r2.nil_iff.mpr w)) _ (I.hok.fresh (Nat.le_refl _))⟩
 exact ⟨by rw [List.length_append]; exact hz,_,r1.append r2,IsTup.new _ _⟩
end
end L2
namespace L2
open PySem PySem.Spec PyProof.Rows
noncomputable def ixN (n:Nat) (i:Int):Option Nat:=if 0 ≤ i then (if i < n then some i.toNat else none) else if -(n:Int) ≤ i then some (i + n).toNat else none
noncomputable def atI {α:Type} (xs:List α) (i:Int):Option α:=(ixN xs.length i).bind fun j => xs[j]?
theorem ya0_ {n:Nat} {i:Int} {j:Nat} (h:ixN n i = some j):seqIndex? i n = some j ∧ j < n ∧ -(n:Int) ≤ i ∧ i < n:=by
 unfold ixN at h
 by_cases h0:0 ≤ i
 · rw [if_pos h0] at h
   by_cases h1:i < n
   · rw [if_pos h1] at h
     have e:i.toNat = j:=Option.some.inj h
     exact ⟨by rw [seqIndex_of h0 h1,e],by omega,by omega,h1⟩
   · rw [if_neg h1] at h; cases h
 · rw [if_neg h0] at h
   by_cases h1:-(n:Int) ≤ i
   · rw [if_pos h1] at h
     have e:(i + n).toNat = j:=Option.some.inj h
     exact ⟨by rw [seqIndex_neg (by omega) h1,e],by omega,h1,by omega⟩
   · rw [if_neg h1] at h; cases h
theorem atI_get {α:Type} {xs:List α} {i:Int} {v:α} (h:atI xs i = some v):∃ j,seqIndex? i xs.length = some j ∧ xs[j]? = some v ∧ j < xs.length ∧ -(xs.length:Int) ≤ i ∧ i < xs.length:=by
 unfold atI at h
 cases e:ixN xs.length i with
 | none => rw [e] at h; cases h
 | some j =>
   rw [e] at h
   (refine DX.x0_4 (ya0_ e) ?_; rintro h1 h2 h3 h4)
   exact ⟨j,h1,h,h2,h3,h4⟩
noncomputable def jah_ (b:Expr):Prop:=∀ o i,subscripted b false o i = operate [o,i] (getItem o i)
noncomputable def IxR (X:Cx) (r:R2):Prop :=
 ∀ (value slice:Expr) (pins:List (Addr × Obj)) (s:Shared) (σ:St) (H:Hp) (x y:V) (v u:Value) (Q:VK),Inv X pins σ H s→RelV x v→RelV y u→r x y H Q →
   subscripted slice false v u = operate [v,u] (getItem v u)→wpAny (model X.prog X.w) X.A (subscriptTail value slice v u) (EP X pins σ Q) X.xe s
noncomputable def MtR (X:Cx) (id:String) (r:V→List V→Hp→VK→Prop):Prop :=
 ∀ (pins:List (Addr × Obj)) (s:Shared) (σ:St) (H:Hp) (x:V) (xs:List V) (v:Value) (us:List Value) (Q:VK),Inv X pins σ H s→RelV x v→Vals xs us→r x xs H Q →
   wpAny (model X.prog X.w) X.A (call (.builtin id) (v :: us)) (EP X pins σ Q) X.xe s
section
variable {X:Cx} {a b:Expr} {ta tb:TE} {pos:Pos}
theorem ybj_ {r:R2} (hr:IxR X r) (ha:PE X a ta) (hb:PE X b tb) (hs:jah_ b):PE X (.Subscript a b pos) (tOp r ta tb):=by
 intro pins s σ H Q I h
 exact Subscript_ (binT ha hb I h fun v u s2 x y H2 I2 rx ry q => hr a b pins s2 σ H2 x y v u Q I2 rx ry q (hs _ _))
noncomputable def rIxL (K:PySem.W.Frag):R2:=fun x y H Q => ∃ p xs i v,x = .ref p ∧ y = .int i ∧ SqL K H p xs ∧ atI xs i = some v ∧ Q v H
noncomputable def rIxT (K:PySem.W.Frag):R2:=fun x y H Q => ∃ p xs i v,x = .ref p ∧ y = .int i ∧ SqT K H p xs ∧ atI xs i = some v ∧ Q v H
noncomputable def rIxS:R2:=fun x y H Q => ∃ z i c,x = .str z ∧ y = .int i ∧ z.length ≤ sizeLine ∧ atI z.cps.toList i = some c ∧ Q (.str ⟨#[c]⟩) H
theorem xa0_:IxR X (rIxL X.K):=by
 intro value slice pins s σ H x y v u Q I rx ry h hs
 (refine DX.x4_5 h ?_; try clear h; rintro p xs i z rfl rfl hq he q)
 cases rx
 obtain ⟨t,rfl⟩:=ry
 (refine DX.x1_3 (I.list hq) ?_; rintro its r pl hz)
 (refine DX.x1_5 (atI_get he) ?_; rintro j h1 h2 h3 h4 h5)
 (refine DX.x1_2 (r.get h2) ?_; rintro w ew rw')
 have hl:=r.length
 have hn:=ku_
 have fin:EP X pins σ Q w s:=⟨z,H,I,rw',q⟩
 by_cases h0:0 ≤ i
 · have hj:i.toNat = j:=by
     rw [seqIndex_of h0 h5] at h1
     exact Option.some.inj h1
   exact item_listR pl.isList h0 (by omega) (by rw [hj]; simpa using ew) fin hs
 · have hj:(i + (its.toArray.size:Int)).toNat = j:=by
     rw [seqIndex_neg (by omega) h4] at h1
     rw [List.size_toArray,← hl]
     exact Option.some.inj h1
   exact subscriptTail_builtinR (x:=w) pl.isList.typeIs slot_list_getitem.lookup
     (wpAny_getItem_list_neg (Q:=fun r s' => r = w ∧ EP X pins σ Q r s') pl.isList (by omega) (by rw [List.size_toArray] <;> omega) (by omega) (by rw [hj]; simpa using ew) ⟨rfl,fin⟩) hs
theorem xba_:IxR X (rIxT X.K):=by
 intro value slice pins s σ H x y v u Q I rx ry h hs
 (refine DX.x4_5 h ?_; try clear h; rintro p xs i z rfl rfl hq he q)
 cases rx
 obtain ⟨t,rfl⟩:=ry
 (refine DX.x1_3 (I.tuple hq) ?_; rintro its r pl hz)
 (refine DX.x1_5 (atI_get he) ?_; rintro j h1 h2 h3 h4 h5)
 (refine DX.x1_2 (r.get h2) ?_; rintro w ew rw')
 have hl:=r.length
 have hn:=ku_
 have fin:EP X pins σ Q w s:=⟨z,H,I,rw',q⟩
 exact subscriptTail_builtinR (x:=w) pl.typeIs slot_tuple_getitem.lookup
   (getItem_tuple (j:=j) (Q:=fun r s' => r = w ∧ EP X pins σ Q r s') pl (by omega) (by omega) (by rw [List.size_toArray,← hl]; exact h1) (by simpa using ew) ⟨rfl,fin⟩) hs
theorem wba_:IxR X rIxS:=by
 intro value slice pins s σ H x y v u Q I rx ry h hs
 (refine DX.x3_5 h ?_; try clear h; rintro z i c rfl rfl hz he q)
 obtain ⟨t,rfl⟩:=rx
 obtain ⟨t',rfl⟩:=ry
 (refine DX.x1_5 (atI_get he) ?_; rintro j h1 h2 h3 h4 h5)
 have hl:z.cps.toList.length = z.length:=by simp [Str.length]
 rw [hl] at h1 h4 h5
 have hn:=ku_
 exact tail_any (typeIs_str s z t) slot_str_getitem.lookup (getItem_str (c:=c) (by
   have e1:decide (i < -(2 ^ 63:Int)) = false:=decide_eq_false (by omega)
   have e2:decide (i ≥ 2 ^ 63) = false:=decide_eq_false (by omega)
   rw [e1,e2,Bool.or_false]) (by rw [h1]; simpa using h2) ⟨.str ⟨#[c]⟩,H,I.tok _,⟨_,rfl⟩,q⟩) hs
theorem y1_ (lo hi:Option Int) (n:Nat):(sliceBounds lo hi none n).1 = ((HT.sIx n 0 lo:Nat):Int) ∧ (sliceBounds lo hi none n).2.1 = ((HT.sIx n n hi:Nat):Int) ∧ (sliceBounds lo hi none n).2.2 = 1:=by
 refine ⟨?_,?_,rfl⟩
 · cases lo with
   | none => simp [sliceBounds,HT.sIx]
   | some i =>
     simp only [sliceBounds,HT.sIx,Option.getD_none,show (1:Int) > 0 by decide,if_true]
     by_cases h:i < 0
     · simp only [h,if_true] <;> omega
     · simp only [h,if_false] <;> omega
 · cases hi with
   | none => simp [sliceBounds,HT.sIx]
   | some i =>
     simp only [sliceBounds,HT.sIx,Option.getD_none,show (1:Int) > 0 by decide,if_true]
     by_cases h:i < 0
     · simp only [h,if_true] <;> omega
     · simp only [h,if_false] <;> omega
theorem jx_ (its:List Value) (lo hi:Option Int):slicePick its.toArray lo hi none = ((its.drop (HT.sIx its.length 0 lo)).take (HT.sIx its.length its.length hi - HT.sIx its.length 0 lo)).toArray:=by
 (refine DX.x0_3 (y1_ lo hi its.toArray.size) ?_; rintro h1 h2 h3)
 unfold slicePick
 rw [h1,h2,h3]
 simp only [sliceRange_one,pick_run,List.size_toArray] <;> rfl
noncomputable def rSlL (K:PySem.W.Frag):V→Option Int→Option Int→Hp→VK→Prop:=fun x lo hi H Q => ∃ a xs,x = .ref a ∧ SqL K H a xs ∧ ∀ p,H p = none→Q (.ref p) (upd H p (.lst (cutV xs lo hi)))
theorem wa0_:SlR X (rSlL X.K):=by
 intro pins s σ H x v vl vu lo hi sl Q I rx hs pl pu h
 (refine DX.x2_3 h ?_; try clear h; rintro a xs rfl hx q)
 cases rx
 (refine DX.x1_3 (I.list hx) ?_; rintro its r ht hz)
 have hlen:=r.length
 refine ⟨"list",_,slot_list_getitem.lookup,ht.isList.typeIs,?_⟩
 refine wpAny_getItem_list_slice ht.isList hs pl pu .none (by simp) ?_ (by rw [List.size_toArray] <;> omega)
 rw [jx_,← hlen]
 refine ⟨.ref s.heap.objs.size,_,I.laid (t':=s.toks) (o:=.lst (cutV xs lo hi)) (fun b ob q => Heap.get?_push_of_some _ q) (Nat.le_refl _) ?_,rfl,q _ (I.hok.fresh (Nat.le_refl _))⟩
 exact ⟨Nat.le_trans (wi_ xs lo hi) hz,_,0,(r.drop (HT.sIx xs.length 0 lo)).take (HT.sIx xs.length xs.length hi - HT.sIx xs.length 0 lo),Heap.get?_push_size _ rfl⟩
theorem wp_:wo_ X (.builtin "len") (fun xs H Q => ∃ p ys,xs = [.ref p] ∧ (SqL X.K H p ys ∨ SqT X.K H p ys) ∧ Q (.int ys.length) H):=by
 intro pins s σ H xs us Q I r h
 (refine DX.x2_3 h ?_; try clear h; rintro p ys rfl hq q)
 (refine DX.x1_2 (yq_ r) ?_; rintro u rfl rx)
 cases rx
 have hn:=ku_
 rcases hq with hq | hq
 · (refine DX.x1_3 (I.list hq) ?_; rintro its r' pl hz)
   have hlen:=r'.length
   exact Calls.call_len_list pl.isList (by simp only [List.size_toArray] <;> omega) ⟨.int ys.length,H,I.tok _,⟨s.toks + 1,by rw [List.size_toArray,hlen]⟩,q⟩
 · (refine DX.x1_3 (I.tuple hq) ?_; rintro its r' pl hz)
   have hlen:=r'.length
   exact len_tuple pl (by simp only [List.size_toArray] <;> omega) ⟨.int ys.length,H,I.tok _,⟨s.toks + 1,by rw [List.size_toArray,hlen]⟩,q⟩
theorem x1_:wo_ X (.builtin "len") (fun xs H Q => ∃ z,xs = [.str z] ∧ z.length ≤ sizeLine ∧ Q (.int z.length) H):=by
 intro pins s σ H xs us Q I r h
 (refine DX.x1_3 h ?_; try clear h; rintro z rfl hz q)
 obtain ⟨u,rfl,t,rfl⟩:=yq_ r
 have hn:=ku_
 exact len_str (by omega) ⟨.int z.length,H,I.tok _,⟨_,rfl⟩,q⟩
noncomputable def tyV (K:PySem.W.Frag) (T:String) (x:V) (H:Hp):Prop:=match x with
 | .str _ => T = "str"
 | .int _ => T = "int"
 | .ref p => (T = "list" ∧ ∃ xs,SqL K H p xs) ∨ (T = "tuple" ∧ ∃ o,K.lookup p = some o ∧ o.cls = .type "tuple" ∧ o.dict = none) ∨
     (T = "dict" ∧ ((∃ kvs,H p = some (.dK kvs)) ∨ ∃ kvs,H p = some (.dT kvs))) ∨ (T = "set" ∧ ∃ S n,H p = some (.set S n))
 | _ => False
theorem jba_ {pins:List (Addr × Obj)} {σ:St} {H:Hp} {s:Shared} {T:String} {x:V} {v:Value} (I:Inv X pins σ H s) (r:RelV x v) (ty:tyV X.K T x H) :
   s.TypeIs v T ∧ ∀ a,v = .ref a→∃ ob,s.heap.get? a = some ob ∧ ob.dict = none:=by
 cases x with
 | str z =>
   obtain ⟨t,rfl⟩:=r
   cases (show T = "str" from ty)
   exact ⟨typeIs_str s z t,fun _ e => nomatch e⟩
 | int i =>
   obtain ⟨t,rfl⟩:=r
   cases (show T = "int" from ty)
   exact ⟨typeIs_int s i t,fun _ e => nomatch e⟩
 | ref p =>
   cases r
   rcases ty with ⟨rfl,xs,hq⟩ | ⟨rfl,o,hk,hc,hd⟩ | ⟨rfl,hk⟩ | ⟨rfl,S,n,hk⟩
   · (refine DX.x1_3 (I.list hq) ?_; rintro its _ pl _)
     refine ⟨pl.isList.typeIs,fun a e => ?_⟩
     cases e
     (refine DX.x2_4 pl ?_; try clear pl; rintro o n e c hd _)
     exact ⟨o,e,hd⟩
   · refine ⟨⟨o,I.kIn p o hk,hc⟩,fun a e => ?_⟩
     cases e
     exact ⟨o,I.kIn _ o hk,hd⟩
   · have z:∃ o,s.heap.get? p = some o ∧ o.ExactDict:=by
       rcases hk with ⟨kvs,hk⟩ | ⟨kvs,hk⟩
       · obtain ⟨_,_,_,_,o,_,_,e,ex,_⟩:=I.hok p _ hk
         exact ⟨o,e,ex⟩
       · obtain ⟨_,_,_,_,o,_,_,e,ex,_⟩:=I.hok p _ hk
         exact ⟨o,e,ex⟩
     (refine DX.x1_2 z ?_; try clear z; rintro o e ex)
     refine ⟨⟨o,e,ex.1⟩,fun a e2 => ?_⟩
     cases e2
     exact ⟨o,e,ex.2.1⟩
   · (refine DX.x4_3 (I.hok p _ hk) ?_; rintro o _ _ _ e ex _)
     refine ⟨⟨o,e,ex.1⟩,fun a e2 => ?_⟩
     cases e2
     exact ⟨o,e,ex.2.1⟩
 | _ => exact False.elim ty
noncomputable def tBM (K:PySem.W.Frag) (T:String) (r:V→List V→Hp→VK→Prop) (to:TE) (t:TA):TE:=fun σ H Q => to σ H fun x H1 => tyV K T x H1 ∧ t σ H1 fun xs H2 => r x xs H2 Q
variable {o e:Expr} {es:List Expr} {to:TE} {t:TA} {name:Str} {apos cpos:Pos} {T id:String} {r:V→List V→Hp→VK→Prop}
theorem kah_ (pa:PlainAttrs T) (slot:Slot T name id) (hty:typeOf (.builtin id) = pure (.type "method_descriptor")) (hm:MtR X id r) (ho:PE X o to) (ha:PA X (e :: es) t)
   (hbase:autoParam (attributeBase o name X.env (eval o X.env) = eval o X.env) au1._auto_1)
   (hfew:((backTo cpos (starEach (e :: es) X.env)).all (fun x => !x.1) && (backToKw cpos (keywordEach [] X.env)).all (fun x => x.1.isSome)
     && decide ((e :: es).length + ([]:List Keyword).length + (if ([]:List Keyword).isEmpty then 0 else 1) < 30)) = true:=by rfl)
   (hline:autoParam ((apos.endLine == cpos.line) = true) au1._auto_1) (hs:autoParam (starEach (e :: es) X.env = (false,eval e X.env) :: starEach es X.env) au1._auto_1) (hplain:autoParam ((backTo cpos (starEach es X.env)).any (·.1) = false) au1._auto_1) :
   PE X (.Call (.Attribute o name apos) (e :: es) [] cpos) (tBM X.K T r to t):=by
 intro pins s σ H Q I h
 refine wpAny_Call_method_late hbase hfew hline rfl (thn (ho pins s σ H _ I h) fun v s1 ⟨x,H1,I1,r1,ty,q1⟩ => ?_)
 obtain ⟨h1,h2⟩:=jba_ I1 r1 ty
 refine ⟨T,id,pa,slot,hty,h1,h2,?_⟩
 have hA:=ha cpos pins s1 σ H1 _ I1 q1
 rw [hs] at hA ⊢
 refine Calls.callWith_builtin (by show (false || (backTo cpos (starEach es X.env)).any (·.1)) = false; rw [hplain] <;> rfl) (Calls.evalArgs_plain ?_)
 exact thn hA fun us s2 ⟨vs,H2,I2,r2,q2⟩ => hm pins s2 σ H2 x vs v us Q I2 r1 r2 q2
/- xs.append(e),list.index on a module's tuple .. are MtR facts of 06m -/
end
end L2
namespace L2
open PySem PySem.Spec PyProof.Rows
noncomputable def MtM (X:Cx) (id:String) (r:V→List V→Hp→VK→Prop):Prop :=
 ∀ (pins:List (Addr × Obj)) (s:Shared) (σ:St) (H:Hp) (x:V) (xs:List V) (v:Value) (us:List Value) (Q:VK),Inv X pins σ H s→RelV x v→Vals xs us→r x xs H Q →
   wpAny (model X.prog X.w) X.A (call (.builtin id) (v :: us)) (EP X pins σ Q) X.xe s
theorem Vals.one:∀ {x:V} {us:List Value},Vals [x] us→∃ u,us = [u] ∧ RelV x u
 | _,_,.cons r .nil => ⟨_,rfl,r⟩
theorem Vals.reverse {xs:List V} {us:List Value} (h:Vals xs us):Vals xs.reverse us.reverse:=by
 induction h with
 | nil => exact .nil
 | cons r t ih => rw [List.reverse_cons,List.reverse_cons]; exact Vals.append ih (.cons r .nil)
theorem Vals.rep {xs:List V} {us:List Value} (h:Vals xs us):∀ k:Nat,Vals (List.replicate k xs).flatten (List.replicate k us).flatten
 | 0 => .nil
 | k + 1 => by
   rw [List.replicate_succ,List.replicate_succ,List.flatten_cons,List.flatten_cons]
   exact Vals.append h (Vals.rep h k)
section
variable {X:Cx} {pins:List (Addr × Obj)} {σ:St} {H:Hp} {s:Shared} {l b:Addr} {xs ys zs:List V}
theorem Inv.lset {its its':List Value} {n:Nat} {f:Array Value→Array Value} {t':Nat} (I:Inv X pins σ H s) (hH:H l = some (.lst xs))
   (e:s.heap.get? l = some { cls:=.type "list",data:=.seq its.toArray n }) (hf:f its.toArray = its'.toArray) (hv:Vals ys its') (hz:ys.length ≤ sizeLine) :
   Inv X pins σ (upd H l (.lst ys)) { s with heap:=s.heap.update l (Obj.mapSeq f),toks:=t' }:=by
 have q:=PySem.IsL.update e f
 rw [hf] at q
 refine I.write (x:=l) (e:=l) (by rw [hH]; exact trivial) (.inl rfl) (fun b' u hb hu => (Heap.get?_update_other s.heap (Obj.mapSeq f) (Ne.symm hb)).trans hu) ⟨_,q⟩ ?_
 exact ⟨hz,its',_,hv,q⟩
theorem Inv.lnew {its:List Value} {t':Nat} (I:Inv X pins σ H s) (hv:Vals ys its) (hz:ys.length ≤ sizeLine) :
   Inv X pins σ (upd H s.heap.objs.size (.lst ys)) { s with heap:=s.heap.push { cls:=.type "list",data:=.seq its.toArray },toks:=t' } :=
 I.laid (fun _ _ q => Heap.get?_push_of_some _ q) (Nat.le_refl _) ⟨hz,its,0,hv,Heap.get?_push_size _ rfl⟩
theorem Inv.fresh (I:Inv X pins σ H s):H s.heap.objs.size = none:=I.hok.fresh (Nat.le_refl _)
theorem Inv.lstM (I:Inv X pins σ H s) (hH:H l = some (.lst xs)):xs.length ≤ sizeLine ∧ ∃ (its:List Value) (n:Nat),Vals xs its ∧ xs.length = its.length ∧ s.heap.get? l = some { cls:=.type "list",data:=.seq its.toArray n }:=by
 obtain ⟨z,its,n,r,e⟩:=I.hok l _ hH
 exact ⟨z,its,n,r,r.length,e⟩
theorem zaq_ {n:Nat} (h:n ≤ sizeLine):Builtin.List.listTooLong n = false:=by
 unfold Builtin.List.listTooLong
 exact decide_eq_false (by omega)
end
section
variable {X:Cx}
noncomputable def ja0_:V→List V→Hp→VK→Prop:=fun x vs H Q => ∃ l xs y,x = .ref l ∧ vs = [y] ∧ H l = some (.lst xs) ∧ xs.length < sizeLine ∧ Q .non (upd H l (.lst (xs ++ [y])))
theorem wr_:MtM X "list.append" ja0_:=by
 intro pins s σ H x vs v us Q I rx rv h
 (refine DX.x3_5 h ?_; try clear h; rintro l xs y rfl rfl hH hz q)
 cases rx
 (refine DX.x1_2 rv.one ?_; rintro u rfl ru)
 obtain ⟨z,its,n,r,hl,e⟩:=I.lstM hH
 refine call_meets F.slot_list_append ⟨_,e,rfl⟩ F.entry_list_append (F.args_list_append_2 _ _) (PySem.list_append l its.toArray n u (by rw [List.size_toArray]; omega)) ⟨e,?_⟩
 refine ⟨.non,_,I.lset (its':=its ++ [u]) hH e (by simp) (r.append (.cons ru .nil)) ?_,rfl,q⟩
 rw [List.length_append,List.length_singleton]
 omega
theorem vah_ {α:Type} (xs:List α) (k:Nat):(List.replicate k xs).flatten.length = k * xs.length:=by
 induction k with
 | zero => simp
 | succ k ih => rw [List.replicate_succ,List.flatten_cons,List.length_append,ih,Nat.succ_mul,Nat.add_comm]
end
section
variable {prog:Program} {w:World} {A:Around} {E:Value→Shared→Prop} {s:Shared}
end
section
variable {X:Cx}
end
end L2
namespace Att
open PySem PySem.W PySem.Calls PyProof.Rows
theorem jr_ {P:Params} {h:Heap}:∀ (ns:List Int) (vs:List Value),WellAll P h vs (ns.map WData.int)→IntsAre vs ns:=by
 intro ns
 induction ns with
 | nil =>
   intro vs w
   rw [List.map_nil] at w
   cases w
   exact .nil
 | cons n ns ih =>
   intro vs w
   rw [List.map_cons] at w
   cases w with
   | cons a b =>
     cases a
     exact .cons _ _ (ih _ b)
theorem uah_ {l:OpenLaw} {n:Nat} (hn:l.most = some n) {P:Params} {h:Heap} {args:List WData} {vals:List Value}
   (hpre:l.row.toRowW.claim.pre args = true) (hwl:WellAll P h vals args) :
   ∃ a vs ns,vals = [Value.ref a] ∧ args = [WData.list (ns.map WData.int)] ∧ h.get? a = some { cls:=.type "list",data:=.seq vs.toArray } ∧ IntsAre vs ns ∧ ns.length ≤ n:=by
 have hsh:WShape.hasAll [] args [.list .int] = true:=(pre_splitW hpre).1
 have hc:l.pre.holds [] { args:=args } = true:=(pre_splitW hpre).2
 (refine DX.x2_3 (hasAllW_cons hsh) ?_; rintro d r rfl h1 h2)
 obtain rfl:=hasAllW_nil h2
 (refine DX.x1_2 (hasW_list h1) ?_; rintro xs rfl h3)
 obtain ⟨ns,rfl⟩:=items_int h3
 have hlen:ns.length ≤ n:=by
   unfold OpenLaw.pre at hc
   have h4:(WTm.not (.lt (.lit (.int (n:Int))) (.len (.arg 0)))).holds [] { args:=[.list (ns.map .int)] } = true:=by
     have h4:=(holds_andW hc).1
     rw [hn] at h4
     exact h4
   have h5:=condW_of h4 (w_not (w_lt w_lit (w_len_list (w_arg rfl))))
   rw [List.length_map] at h5
   refine Nat.le_of_not_lt fun q => ?_
   have q':(n:Int) < ((ns.length:Nat):Int):=by omega
   first
     | (rw [decide_eq_true q'] at h5; exact absurd h5 (by decide))
     | (simp at h5; omega)
 cases hwl with
 | cons w1 w2 =>
   cases w2
   cases w1 with
   | list ho hall => exact ⟨_,_,ns,rfl,rfl,ho,jr_ ns _ hall,hlen⟩
theorem qah_ (l:OpenLaw) (args:List WData):l.row.toRowW.claim.post args (.bool true) args = true :=
 postW_of (r:=l.row.toRowW) (X:=(true == true))
   (show WShape.has [] (.bool true) .bool = true by first | rfl | decide | simp [WShape.has,WShape.arms,WShape.armsAll])
   (show (WTm.eq .res (.lit (.bool true))).value [] { args:=args,res:=some (.bool true),after:=args } = some (.bool (true == true)) from w_eq_bool (w_res rfl) w_lit) rfl
theorem attach_call {l:OpenLaw} {n:Nat} {q:Program} {loose:List Str} {XP:(Str→Option Value)→Heap→Prop} {YP:World→Heap→Prop} {d:DefRec}
   (hn:l.most = some n) (hdf:d.params.defaults = [])
   (call:∀ (w:World) (s₀ s₁:Shared) (mg mb:Str→Option Value) (fa:Addr) (o:Obj) (pm cd doc:Value) (a:Addr) (vs:List Value) (ns:List Int),
     Ground q loose [] XP w s₀ mg mb s₁.heap→YP w s₁.heap →
     s₁.heap.get? fa = some o→o.data = .func (docDef d.name d.params d.body d.scope pm cd doc)→s₁.heap.CodeRec cd d.name→mg d.name = some (.ref fa) →
     s₁.heap.get? a = some { cls:=.type "list",data:=.seq vs.toArray }→IntsAre vs ns→ns.length ≤ n→s₁.gens = #[] →
     codeAny (model l.prog w) callerA (.call (.ref fa) ⟨[.ref a],[]⟩) (fun r s' => r = .ok (.ret (.bool true)) ∧ OldK s₁.heap s'.heap ∧ s'.os = s₁.os ∧ AllBare s'.gens) s₁) :
   WalkO q loose XP YP l.row.toRowW d [] (fun f vs => PySem.call f vs):=by
 intro w s₀ s₁ mg mb G Y fa o pm cd doc dV kV ho hd hcd hD hmg hg args vals as hpre hlay hrd hwl hlo
 obtain rfl:dV = .none:=Dflts.none hD hdf
 obtain rfl:kV = .none:=Dflts.noKw hD
 (refine DX.x3_5 (uah_ hn hpre hwl) ?_; rintro a vs ns rfl rfl hobj hints hlen)
 refine enter_call (codeAny_mono (call w s₀ s₁ mg mb fa o pm cd doc a vs ns G Y ho (fd_plain hd) hcd hmg hobj hints hlen hg) fun r s' hq => ?_)
 (refine DX.x0_4 hq ?_; try clear hq; rintro rfl h2 h3 h4)
 exact ⟨.inl ⟨.bool true,.bool true,[],rfl,fun _ => rfl,.bool true,qah_ l _,fun _ => ⟨List.Pairwise.nil,fun _ hm => (nomatch hm)⟩⟩,h2,h3,h4⟩
section
variable {prog:Program} {w:World} {A:Around} {E:Value→Shared→Prop} {s:Shared} {K:Frag}
end
end Att
namespace L2
open PySem PySem.Spec PyProof.Rows
theorem w1_:∀ {vs:List Value} {ns:List Int},IntsAre vs ns→Vals (ns.map V.int) vs
 | _,_,.nil => .nil
 | _,_,.cons n t h => .cons ⟨t,rfl⟩ (w1_ h)
noncomputable def Only (H:Hp):Prop:=∀ b,H b = none ∨ ∃ o xs,H b = some (.frz o (.lst xs))
theorem yaq_ {P:Program} {w:World} {K:PySem.W.Frag} {mg mb:Str→Option Value} {CX:CXT} {k:Nat} {fa a:Addr} {fd:FuncData} {x:Str} {sp:Sp} {s₁:Shared} {vs:List Value} {ns:List Int}
   (KX:K.In s₁.heap) (hns:s₁.heap.Ns mainGlobals mg) (hb:s₁.heap.Ns builtinsNs mb) (hbb:∀ x:Str,x ≠ "__name__"→mb x = bootBuiltins x) (hlim:s₁.heap.NoLimit) (hg:s₁.gens = #[])
   (ha:s₁.heap.get? a = some { cls:=.type "list",data:=.seq vs.toArray }) (hi:IntsAre vs ns) (hl:ns.length ≤ sizeLine) (hr:Room k callerA)
   (F:∀ base:Heap,K.In base→base.Ns mainGlobals mg→FnOk P w K mg base CX k fa fd [x] sp) (hbind:∀ (s:Shared) (u:Value),BindsTo s fd ⟨[u],[]⟩ [(x,u)])
   (hsp:∀ H:Hp,Only H→SqL K H a (ns.map V.int)→sp [.ref a] H (fun v _ => v = .bl true) fun _ _ _ => False)
   (hCX:∀ H e s',CX [] H s₁ (fun _ _ _ => False) e s'→False) :
   codeAny (model P w) callerA (.call (.ref fa) ⟨[.ref a],[]⟩) (fun r s' => r = .ok (.ret (.bool true)) ∧ OldK s₁.heap s'.heap ∧ s'.os = s₁.os ∧ AllBare s'.gens) s₁:=by
 have rv:=w1_ hi
 have lenV:=hi.length
 have core:∀ H:Hp,Only H→SqL K H a (ns.map V.int)→HOk P w H s₁.heap→(∀ b,H b ≠ none→b = a)→(H a ≠ none→K.lookup a = none) →
     codeAny (model P w) callerA (.call (.ref fa) ⟨[.ref a],[]⟩) (fun r s' => r = .ok (.ret (.bool true)) ∧ OldK s₁.heap s'.heap ∧ s'.os = s₁.os ∧ AllBare s'.gens) s₁:=by
   intro H hO hS hok hA hK
   have base_of:∀ {b:Addr} {o:Obj},s₁.heap.get? b = some o→H b = none→(hidT s₁.heap H).get? b = some o:=fun e n => uao_ e n
   have noA:∀ {b:Addr} {o:Obj} {es:Array DictEntry} {ep:Nat},s₁.heap.get? b = some o→o.data = .dict es ep→H b = none:=fun {b o es ep} e d => by
     cases q:H b with
     | none => rfl
     | some u =>
       have e':b = a:=hA b (by rw [q]; simp)
       subst e'
       rw [ha] at e; cases e
       have d':Data.seq vs.toArray _ = Data.dict es ep:=d
       cases d'
   have nsK:∀ {b:Addr} {m:Str→Option Value},s₁.heap.Ns b m→(hidT s₁.heap H).Ns b m:=fun {b m} ⟨o,es,ep,e,d,r⟩ => ⟨o,es,ep,base_of e (noA e d),d,r⟩
   have hKb:K.In (hidT s₁.heap H):=fun b o e => base_of (KX b o e) (by
     cases q:H b with
     | none => rfl
     | some u =>
       have e':b = a:=hA b (by rw [q]; simp)
       subst e'
       rw [hK (by rw [q]; simp)] at e; cases e)
   have hM:Mod K mg (hidT s₁.heap H):=⟨hKb,nsK hns,⟨mb,nsK hb,hbb⟩,let ⟨mc,h1,h2⟩:=hlim; ⟨mc,nsK h1,h2⟩⟩
   have e0:Env0 P w K mg (hidT s₁.heap H) callerA [] s₁ H:=⟨rfl,hM,fun b o e => jay_ e,Nat.le_of_eq (zag_ _ _),trivial,fun b hb => absurd (show b ∈ ([]:List Addr) from hb) (by simp),hok,.of_eq hg⟩
   refine codeAny_mono ((F _ hKb (nsK hns)).run callerA [] s₁ H ⟨[.ref a],[]⟩ [.ref a] [.ref a] _ _ hr e0 (hbind s₁ (.ref a)) (.cons rfl .nil) (hsp H hO hS)) fun r s' h => ?_
   cases r with
   | error e => exact (hCX H e s' h).elim
   | ok fl =>
     cases fl with
     | next => exact False.elim h
     | brk => exact False.elim h
     | cont => exact False.elim h
     | ret u =>
       (refine DX.x2_6 h ?_; try clear h; rintro v H' os bare un hok' r' q)
       have q':v = .bl true:=q
       subst q'
       obtain rfl:u = Value.bool true:=r'
       refine ⟨rfl,OldK.of_keep fun b o e => ?_,os,bare⟩
       cases q:H b with
       | none => exact un.keep b o e q (by intro z; exact absurd (show b ∈ ([]:List Addr) from z) (by simp)) (by simp)
       | some u =>
         rcases hO b with z | ⟨ob,xs,z⟩
         · rw [q] at z; cases z
         · have z2:=un.frzs b ob _ z
           obtain ⟨e1,_⟩:=hok b _ z
           obtain ⟨e2,_⟩:=hok' b _ z2
           rw [e] at e1; cases e1
           exact e2
 cases hk:K.lookup a with
 | some o =>
   have e:=KX a o hk
   rw [ha] at e
   cases e
   refine core (fun _ => none) (fun _ => .inl rfl) (.inr ⟨_,vs.toArray,_,hk,rfl,rfl,rfl,by rw [List.size_toArray,lenV]; exact hl,by simpa using rv⟩) (fun b u z => by have z':(none:Option HO) = some u:=z; cases z') (fun b z => absurd rfl z) fun z => absurd rfl z
 | none =>
   refine core (fun b => if b = a then some (.frz { cls:=.type "list",data:=.seq vs.toArray } (.lst (ns.map V.int))) else none) (fun b => ?_) (.inl (.inr ⟨{ cls:=.type "list",data:=.seq vs.toArray },if_pos rfl⟩)) (fun b u z => ?_) (fun b z => ?_) fun _ => hk
   · by_cases hb:b = a
     · exact .inr ⟨_,_,if_pos hb⟩
     · exact .inl (if_neg hb)
   · by_cases hb:b = a
     · have z':=(if_pos hb).symm.trans z
       cases z'
       subst hb
       exact ⟨ha,by rw [List.length_map]; exact hl,vs,_,rv,ha⟩
     · have z':=(if_neg hb).symm.trans z
       cases z'
   · by_cases hb:b = a
     · exact hb
     · exact absurd (if_neg hb) z
end L2
namespace L2
open PySem PySem.Spec PyProof.Rows
theorem zai_ {l:PySem.W.OpenLaw} {n k:Nat} {q:Program} {loose:List Str} {XP:(Str→Option Value)→Heap→Prop} {YP:World→Heap→Prop} {d:DefRec} {K:Params→PySem.W.Frag} {CX:World→CXT} {sp:World→Sp} {x:Str}
   (hn:l.most = some n) (hn2:n ≤ sizeLine) (hdf:d.params.defaults = []) (hr:Room k callerA)
   (hY:∀ (w:World) (h:Heap),YP w h→(K w.params).In h)
   (F:∀ (w:World) (mg:Str→Option Value) (fa:Addr) (h:Heap),(K w.params).In h→h.Ns mainGlobals mg→mg d.name = some (.ref fa) →
     ∃ fd:FuncData,(∀ (s:Shared) (u:Value),BindsTo s fd ⟨[u],[]⟩ [(x,u)]) ∧
       ∀ base:Heap,(K w.params).In base→base.Ns mainGlobals mg→FnOk l.prog w (K w.params) mg base (CX w) k fa fd [x] (sp w))
   (hsp:∀ (w:World) (H:Hp) (a:Addr) (ns:List Int),ns.length ≤ n→Only H→SqL (K w.params) H a (ns.map V.int)→sp w [.ref a] H (fun v _ => v = .bl true) fun _ _ _ => False)
   (hCX:∀ (w:World) (H:Hp) (s:Shared) (e:Value) (s':Shared),CX w [] H s (fun _ _ _ => False) e s'→False) :
   PySem.W.WalkO q loose XP YP l.row.toRowW d [] (fun f vs => PySem.call f vs):=by
 refine Att.attach_call hn hdf fun w s₀ s₁ mg mb fa o pm cd doc a vs ns G Y ho hd hcd hmg hobj hints hlen hg => ?_
 have KX:=hY w _ Y
 (refine DX.x1_2 (F w mg fa _ KX G.T.g hmg) ?_; rintro fd hb hF)
 exact yaq_ KX G.T.g G.T.b G.T.builtins G.T.nolimit hg hobj hints (Nat.le_trans hlen hn2) hr hF hb (fun H hO hS => hsp w H a ns hlen hO hS) fun H e s' => hCX w H s₁ e s'
end L2
/- THE LAST THEOREM (shape; LID,My.* are yours):
  My.Adr: a structure of the addresses that your layer names (classes,functions); My.Txt K t: a structure (Prop) of the equations over K;
  My.txt_mk:{K} {implicit addresses ..} (e1:nsIn K mainGlobals "law" = some (some (.ref f))) (e2:K.lookup f = some ⟨oc,od,.func (fnOf "law" "law" params body scope dV kV doc pm an cdv ct),sl⟩) (e3:codeIn K cdv "law" = true) ..:∃ t,My.Txt K t
set_option maxRecDepth 100000 in
set_option maxHeartbeats 0 in
theorem PySem.Challenge.cw_LID_holds : PySem.Challenge.rw_LID.Holds := by
 w_on; o_law; k_head; (case hw => w_witness2)
 k_fill
 refine L2.zai_ (l:=PySem.Challenge.rw_LID) (n:=63) (k:=40) (x:="script") (CX:=fun w => ..) (sp:=fun _ => My.sp_law) rfl (by decide) rfl ⟨rfl,by decide,by decide⟩ (fun w h Y => PySem.W.kIn_of Y) ?F ?S ?C
 case F =>
   intro w mg fa h KX G hmg
   have T:∃ t,My.Txt (L2.KOf KX) t:=by
     dsimp only [L2.KOf]                          -- K must stand as «<heap const> w.params» for k_is
     refine' My.txt_mk ?e1 ?e2 ?e3 ..
     (case e1 => PySem.W.k_is)                    -- in the order: a name -> its address -> its object -> its parts
     (case e2 => PySem.W.k_is)
     ..
   obtain ⟨t,T⟩:=T
   have e0:=hmg.symm.trans (PySem.W.mg_of KX G T.law)
   cases e0                                       -- fa is the law's own address
   exact ⟨_,fun s u => .of_eq rfl,fun base kb nb => My.law_fn T kb nb⟩     -- if «.of_eq rfl» comes too early: refine' ⟨_,?b,fun base kb nb => My.law_fn T kb nb⟩; exact fun s u => .of_eq rfl
 case S => exact fun w H a ns hl hO hS => ..
 case C => exact ..
(the tactic k_is has no namespace: write k_is) -/
namespace L2
open PySem PySem.Spec PyProof.Rows
noncomputable def uj_ (s:Stmt):Arguments:=match s with
 | .FunctionDef _ a _ _ _ _ _ _ _ _ => a
 | _ => { posonlyargs:=[],args:=[],vararg:=none,kwonlyargs:=[],kw_defaults:=[],kwarg:=none,defaults:=[] }
noncomputable def jg_ (s:Stmt):List Stmt:=match s with
 | .FunctionDef _ _ b _ _ _ _ _ _ _ => b
 | _ => []
noncomputable def jb_ (s:Stmt):Scope:=match s with
 | .FunctionDef _ _ _ _ _ _ sc _ _ _ => sc
 | _ => { kind:=.function,names:=[],isGenerator:=false,isCoroutine:=false }
noncomputable abbrev E0:XK:=fun _ _ _ => False
structure Fun (K:PySem.W.Frag) (x qual:Str) (st:Stmt) (f:Addr) (fd:FuncData):Prop where
 ex:∃ (oc:Value) (od:Option Addr) (kV doc pm:Value) (an:Option Addr) (cdv ct:Value) (osl:Array (Option Value)),
   fd = PySem.W.fnOf x qual (uj_ st) (jg_ st) (jb_ st) .none kV doc pm an cdv ct ∧ K.lookup f = some ⟨oc,od,.func fd,osl⟩ ∧ PySem.W.codeIn K cdv qual = true
 kp:PySem.W.keepIn K (.ref f) = true
section
variable {P:Program} {w:World} {K:PySem.W.Frag} {mg:Str→Option Value} {base:Heap}
theorem Fun.binds {x qual:Str} {st:Stmt} {f:Addr} {fd:FuncData} {ps:List Str} (F:Fun K x qual st f fd)
   (h:∀ (kV doc pm:Value) (an:Option Addr) (cdv ct:Value) (us:List Value),us.length = ps.length→bindArgs (PySem.W.fnOf x qual (uj_ st) (jg_ st) (jb_ st) .none kV doc pm an cdv ct) ⟨us,[]⟩ = pure (ps.zip us)):y6_ K fd ps []:=by
 obtain ⟨oc,od,kV,doc,pm,an,cdv,ct,osl,rfl,lk,hcd⟩:=F.ex
 exact .all (h kV doc pm an cdv ct)
theorem yai_ {x qual:Str} {st:Stmt} {f:Addr} {oc:Value} {od an:Option Addr} {osl:Array (Option Value)} {kV doc pm cdv ct:Value} (l:K.lookup f = some ⟨oc,od,.func (PySem.W.fnOf x qual (uj_ st) (jg_ st) (jb_ st) .none kV doc pm an cdv ct),osl⟩)
   (c:PySem.W.codeIn K cdv qual = true) (k:PySem.W.keepIn K (.ref f) = true):Fun K x qual st f (PySem.W.fnOf x qual (uj_ st) (jg_ st) (jb_ st) .none kV doc pm an cdv ct):=⟨⟨oc,od,kV,doc,pm,an,cdv,ct,osl,rfl,l,c⟩,k⟩
end
section
variable {X:Cx}
end
noncomputable def Same (H H':Hp):Prop:=∀ b o,H b = some o→H' b = some o
theorem Same.refl (H:Hp):Same H H:=fun _ _ h => h
theorem Same.trans {H H1 H2:Hp} (a:Same H H1) (b:Same H1 H2):Same H H2:=fun c o h => b c o (a c o h)
theorem Same.free {H H':Hp} (e:Same H H') {l:Addr} (h:H' l = Option.none):H l = Option.none:=by
 cases q:H l with
 | none => rfl
 | some o =>
   rw [e l o q] at h
   cases h
theorem Same.seq {K:PySem.W.Frag} {H H':Hp} {a:Addr} {xs:List V} (e:Same H H') (h:SqL K H a xs):SqL K H' a xs:=by
 rcases h with (h | ⟨o,h⟩) | h
 · exact .inl (.inl (e _ _ h))
 · exact .inl (.inr ⟨o,e _ _ h⟩)
 · exact .inr h
end L2
namespace L2
open PySem PySem.Spec PyProof.Rows
noncomputable abbrev NoE:Value→Shared→Prop:=fun _ _ => False
noncomputable abbrev ka0_ (ifs:List Expr) (env:Env):Sem Bool:=forIn ifs true fun c r => if r = true then do let ok ← isTrue c env (eval c env); pure (ForInStep.yield ok) else pure (ForInStep.yield r)
theorem xbj_ {α:Type} {t:Sem α} {Q:α→Shared→Prop} {M:Model} {A:Around} {E:Value→Shared→Prop} {s:Shared} (h:wpAny M A t Q NoE s):wpAny M A t Q E s:=wpAny_mono h (fun _ _ q => q) fun _ _ z => z.elim
theorem x6_ {prog:Program} {w:World} {A:Around} {R:Result→Shared→Prop} {s:Shared} {elt target iter:Expr} {ifs:List Expr} {scope:Scope} {pos:Pos} {it acc:Value} {env:Env} (I:Nat→Shared→Prop)
   (turn:∀ n s,I n s→wpAny (model prog w) A (pyNext it) (fun r s₁ => match r with
     | none => R (.ok .next) s₁
     | some v => wpAny (model prog w) A (letOwnedTupleGo target it v) (fun _ s₁' => wpAny (model prog w) A (assign target env v) (fun _ s₂ =>
         wpAny (model prog w) A (ka0_ ifs env) (fun ok s₃ =>
           if ok = true then wpAny (model prog w) A (eval elt env) (fun x s₄ =>
             wpAny (model prog w) A (call (.builtin "list.append") [acc,x]) (fun _ s₅ => ∃ m,m < n ∧ I m s₅) NoE s₄) NoE s₃
           else ∃ m,m < n ∧ I m s₃) NoE s₂) NoE s₁') NoE s₁) NoE s)
   (n:Nat) (h:I n s):codeAny (model prog w) A (.compLoop (.ListComp elt [⟨target,iter,ifs,0⟩] scope pos) 0 it acc env) R s:=by
 refine codeAny_loop rfl I (fun n s hI => ?_) n h
 show wpAny _ A ((compTurn (.ListComp elt [⟨target,iter,ifs,0⟩] scope pos) 0 it acc env).onRaise (fun x => do noteFrame x env; theTreesLotGoes x)) _ _ s
 refine wpAny_noted ?_
 rw [compTurn_list]
 refine wpAny_bind (wpAny_standAt (wpAny_bind (wpAny_mono (turn n s hI) (fun r s₁ h₁ => ?_) fun _ _ z => z.elim)))
 cases r with
 | none => exact wpAny_pure h₁
 | some v =>
   refine wpAny_bind (wpAny_mono h₁ (fun _ s₁' h₁' => ?_) fun _ _ z => z.elim)
   refine wpAny_bind (wpAny_mono h₁' (fun _ s₂ h₂ => wpAny_bind (wpAny_mono h₂ (fun ok s₃ h₃ => ?_) fun _ _ z => z.elim)) fun _ _ z => z.elim)
   cases ok with
   | false => exact wpAny_pure ⟨rfl,h₃⟩
   | true =>
     exact wpAny_bind (wpAny_bind (wpAny_mono h₃ (fun x s₄ h₄ => wpAny_bind (wpAny_mono h₄ (fun _ s₅ h₅ => wpAny_pure (wpAny_pure ⟨rfl,h₅⟩)) fun _ _ z => z.elim)) fun _ _ z => z.elim))
noncomputable def qd_ (env:Env):List (Str × NameKind)→List (Str × Addr)→List (Str × Addr)
 | [],cs => cs
 | (n,k) :: r,cs => qd_ env r (if k == .free then (n,(env.cells.lookup n).getD 0) :: cs else cs)
theorem kl_ {env:Env}:∀ (names:List (Str × NameKind)) (cs:List (Str × Addr)),(∀ y ∈ names,y.2 = .free→∃ c,env.cells.lookup y.1 = some c) →
   (forIn names cs fun (x:Str × NameKind) (r:List (Str × Addr)) => (match x with
     | (name,kind) => if (kind == NameKind.free) = true then (do let a ← cellOf env name; pure (ForInStep.yield ((name,a) :: r))) else pure (ForInStep.yield r):Sem (ForInStep (List (Str × Addr))))) = pure (qd_ env names cs)
 | [],cs,_ => rfl
 | (n,k) :: r,cs,h => by
   have ih:=fun cs' => kl_ (env:=env) r cs' fun y hy => h y (List.mem_cons_of_mem _ hy)
   rw [List.forIn_cons]
   unfold qd_
   cases hk:(k == NameKind.free) with
   | true =>
     obtain ⟨c,hc⟩:=h (n,k) List.mem_cons_self (by simpa using hk)
     dsimp only at hc
     simp only [hk,if_true]
     unfold cellOf
     rw [hc]
     simp only [pure_bind,Option.getD_some]
     exact ih _
   | false =>
     simp only [hk,Bool.false_eq_true,if_false,pure_bind]
     exact ih _
theorem xad_ {scope:Scope} {env:Env} (h:∀ y ∈ scope.names,y.2 = .free→∃ c,env.cells.lookup y.1 = some c):closureFor scope env = pure (qd_ env scope.names []):=by
 unfold closureFor
 have e:=kl_ (env:=env) scope.names [] h
 first
   | (simp only [bind_pure]; exact e)
   | (rw [bind_pure]; exact e)
   | (refine Eq.trans ?_ (Eq.trans (congrArg (fun m => m >>= fun r => pure r) e) (by simp)); rfl)
theorem zv_ {env:Env} {x:Str} {c:Addr}:∀ {names:List (Str × NameKind)} {cs:List (Str × Addr)},(qd_ env names cs).lookup x = some c→cs.lookup x = some c ∨ ((x,NameKind.free) ∈ names ∧ c = (env.cells.lookup x).getD 0)
 | [],_,h => .inl h
 | (n,k) :: r,cs,h => by
   unfold qd_ at h
   rcases zv_ h with q | ⟨q1,q2⟩
   · cases hk:(k == NameKind.free) with
     | true =>
       rw [hk] at q
       simp only [if_true,List.lookup_cons] at q
       cases hx:x == n with
       | true =>
         rw [hx] at q
         have e1:x = n:=by simpa using hx
         have e2:k = .free:=by simpa using hk
         subst e1 e2
         exact .inr ⟨List.mem_cons_self,(Option.some.inj q).symm⟩
       | false => rw [hx] at q; exact .inl q
     | false => rw [hk] at q; exact .inl (by simpa using q)
   · exact .inr ⟨List.mem_cons_of_mem _ q1,q2⟩
theorem kr_ {env:Env} {x:Str}:∀ {names:List (Str × NameKind)} {cs:List (Str × Addr)},(∃ c,cs.lookup x = some c)→∃ c,(qd_ env names cs).lookup x = some c
 | [],_,h => h
 | (n,k) :: r,cs,h => by
   unfold qd_
   refine kr_ ?_
   split
   · rw [List.lookup_cons]
     cases x == n with
     | true => exact ⟨_,rfl⟩
     | false => exact h
   · exact h
theorem yv_ {env:Env} {x:Str}:∀ {names:List (Str × NameKind)} {cs:List (Str × Addr)},(x,NameKind.free) ∈ names→∃ c,(qd_ env names cs).lookup x = some c
 | (n,k) :: r,cs,h => by
   unfold qd_
   rcases List.mem_cons.mp h with e | e
   · cases e
     refine kr_ ⟨(env.cells.lookup x).getD 0,?_⟩
     simp
   · exact yv_ e
theorem xh_ {scope:Scope} {env:Env} {x:Str}:((relabel scope env).names.lookup x) = (scope.names.lookup x).map fun k => if (k == .free && env.scope.kind == .function && env.kindOf x == some .cell) then NameKind.cell else k:=by
 show ((scope.names.map fun (n,k) => if (k == NameKind.free && env.scope.kind == .function && env.kindOf n == some .cell) then (n,NameKind.cell) else (n,k)).lookup x) = _
 induction scope.names with
 | nil => rfl
 | cons p r ih =>
   obtain ⟨n,k⟩:=p
   rw [List.map_cons,List.lookup_cons (k:=n)]
   dsimp only
   cases hx:x == n with
   | true =>
     have e:x = n:=by simpa using hx
     subst e
     by_cases hc:(k == NameKind.free && env.scope.kind == .function && env.kindOf x == some .cell) = true
     · rw [if_pos hc,List.lookup_cons,beq_self_eq_true]
       show some NameKind.cell = some (if (k == NameKind.free && env.scope.kind == .function && env.kindOf x == some .cell) = true then NameKind.cell else k)
       rw [if_pos hc]
     · rw [if_neg hc,List.lookup_cons,beq_self_eq_true]
       show some k = some (if (k == NameKind.free && env.scope.kind == .function && env.kindOf x == some .cell) = true then NameKind.cell else k)
       rw [if_neg hc]
   | false =>
     by_cases hc:(k == NameKind.free && env.scope.kind == .function && env.kindOf n == some .cell) = true
     · rw [if_pos hc,List.lookup_cons,hx]; exact ih
     · rw [if_neg hc,List.lookup_cons,hx]; exact ih
theorem vl_ {α β:Type} [BEq α] [LawfulBEq α] {x:α} {k:β}:∀ {l:List (α × β)},l.lookup x = some k→(x,k) ∈ l
 | (n,j) :: r,h => by
   rw [List.lookup_cons] at h
   cases hx:x == n with
   | true =>
     rw [hx] at h
     cases h
     rw [beq_iff_eq.mp hx]
     exact List.mem_cons_self
   | false => rw [hx] at h; exact List.mem_cons_of_mem _ (vl_ h)
noncomputable def ji_ (scF scB:Scope) (N:List Str):Bool :=
 scB.names.all (fun y => (y.2 != .cell) && (y.2 != .free || scF.names.lookup y.1 == some .cell || scF.names.lookup y.1 == some .free) && (y.2 != .local || scB.names.lookup y.1 == some .local)) &&
 N.all (fun x => scB.names.lookup x != some .local) && scB.kind == .function
noncomputable def ki_ (scF scB:Scope) (N N':List Str):Bool :=
 scB.names.all (fun y => (y.2 != .cell) && (y.2 != .free || scF.names.lookup y.1 == some .cell || scF.names.lookup y.1 == some .free) && (y.2 != .local || scB.names.lookup y.1 == some .local)) &&
 (N.zip N').all (fun p => (p.1 == p.2 && scB.names.lookup p.1 != some .local) || scB.names.lookup p.2 == none) && N'.length == N.length && scB.kind == .function
noncomputable abbrev Cx.blockN (X:Cx) (N':List Str) (scope:Scope) (ns:List Str) (C:Addr) (s:Shared) (H:Hp) (fp:List Addr):Cx :=
 { X with N:=N' ++ ns,s₀:=s,H₀:=H,env:=compEnvC scope (qd_ X.env scope.names []) C X.env,outer:=X.stack,ex:=fp,fn:=fun _ => false,pn:=[],xe:=NoE }
noncomputable abbrev Cx.block (X:Cx) (scope:Scope) (ns:List Str) (C:Addr) (s:Shared) (H:Hp) (fp:List Addr):Cx :=
 { X with N:=X.N ++ ns,s₀:=s,H₀:=H,env:=compEnvC scope (qd_ X.env scope.names []) C X.env,outer:=X.stack,ex:=fp,fn:=fun _ => false,pn:=[],xe:=NoE }
section
variable {X:Cx} {scope:Scope} {ns:List Str} {pins:List (Addr × Obj)} {σ:St} {H:Hp} {s:Shared}
structure BlockOk (X:Cx) (N':List Str) (scope:Scope):Prop where
 len:N'.length = X.N.length
 clos:closureFor scope X.env = pure (qd_ X.env scope.names [])
 cell:∀ y ∈ scope.names,y.2 ≠ .cell
 kind:scope.kind = .function
 names:∀ y ∈ scope.names,y.2 = .local→scope.names.lookup y.1 = some .local
 sub:∀ x c,(qd_ X.env scope.names []).lookup x = some c→X.env.cells.lookup x = some c
 has:∀ x,((relabel scope X.env).names.lookup x = some .cell ∨ (relabel scope X.env).names.lookup x = some .free)→∃ c,(qd_ X.env scope.names []).lookup x = some c
 vis:∀ (i:Nat) (x:Str),N'[i]? = some x→Vis (relabel scope X.env) x→X.N[i]? = some x ∧ ((relabel scope X.env).names.lookup x = some .cell ∨ (relabel scope X.env).names.lookup x = some .free) ∧ (X.env.kindOf x = some .cell ∨ X.env.kindOf x = some .free)
theorem w6_ {N':List Str} (ok:X.Ok) (h:ki_ X.env.scope scope X.N N' = true):BlockOk X N' scope:=by
 unfold ki_ at h
 simp only [Bool.and_eq_true,List.all_eq_true,bne_iff_ne,Bool.or_eq_true,beq_iff_eq] at h
 obtain ⟨⟨⟨h1,h2⟩,h4⟩,h3⟩:=h
 have fr:∀ y ∈ scope.names,y.2 = .free→(X.env.kindOf y.1 = some .cell ∨ X.env.kindOf y.1 = some .free):=fun y hy e => by
   rcases (h1 y hy).1.2 with (q | q) | q
   · exact absurd e q
   · exact .inl q
   · exact .inr q
 have hc:∀ y ∈ scope.names,y.2 = .free→∃ c,X.env.cells.lookup y.1 = some c:=fun y hy e => ok.has y.1 (fr y hy e)
 have back:∀ x k,(relabel scope X.env).names.lookup x = some k→(k = .cell ∨ k = .free)→(x,NameKind.free) ∈ scope.names:=fun x k e hk => by
   rw [xh_] at e
   cases q:scope.names.lookup x with
   | none => rw [q] at e; cases e
   | some j =>
     rw [q] at e
     have m:=vl_ q
     have e':(if (j == .free && X.env.scope.kind == .function && X.env.kindOf x == some .cell) = true then NameKind.cell else j) = k:=Option.some.inj e
     by_cases hj:j = .free
     · subst hj; exact m
     · have:(j == NameKind.free && X.env.scope.kind == .function && X.env.kindOf x == some .cell) = false:=by
         have:(j == NameKind.free) = false:=by simpa using hj
         rw [this]; rfl
       rw [this] at e'
       simp only [Bool.false_eq_true,if_false] at e'
       subst e'
       rcases hk with z | z
       · exact absurd z (h1 _ m).1.1
       · exact absurd z hj
 refine ⟨h4,xad_ hc,fun y hy => (h1 y hy).1.1,h3,fun y hy e => ?_,fun x c e => ?_,fun x e => ?_,fun k x hx v => ?_⟩
 · rcases (h1 y hy).2 with q | q
   · exact absurd e q
   · exact q
 · rcases zv_ e with q | ⟨q1,q2⟩
   · cases q
   · obtain ⟨c',h'⟩:=hc _ q1 rfl
     dsimp only at h'
     rw [h'] at q2
     rw [h',q2]; rfl
 · refine yv_ ?_
   rcases e with e | e
   · exact back x _ e (.inl rfl)
   · exact back x _ e (.inr rfl)
 · have hk:k < N'.length:=(List.getElem?_eq_some_iff.mp hx).1
   obtain ⟨z,hz⟩:∃ z,X.N[k]? = some z:=⟨_,List.getElem?_eq_getElem (by omega)⟩
   have hzip:(X.N.zip N')[k]? = some (z,x):=by rw [List.getElem?_zip_eq_some]; exact ⟨hz,hx⟩
   have nn:scope.names.lookup x ≠ none:=fun q => by
     rcases v with e | e | e <;> · rw [xh_,q] at e; cases e
   obtain ⟨zx,nl⟩:z = x ∧ scope.names.lookup x ≠ some .local:=by
     rcases h2 _ (List.mem_of_getElem? hzip) with q | q
     · exact ⟨q.1,by have:=q.2; rw [q.1] at this; exact this⟩
     · exact absurd q nn
   rw [zx] at hz
   refine ⟨hz,?_⟩
   have fin:((relabel scope X.env).names.lookup x = some .cell ∨ (relabel scope X.env).names.lookup x = some .free):=by
     rcases v with e | e | e
     · exfalso
       rw [xh_] at e
       cases q:scope.names.lookup x with
       | none => rw [q] at e; cases e
       | some j =>
         rw [q] at e
         have e':(if (j == .free && X.env.scope.kind == .function && X.env.kindOf x == some .cell) = true then NameKind.cell else j) = .local:=Option.some.inj e
         split at e'
         · cases e'
         · subst e'; exact nl q
     · exact .inl e
     · exact .inr e
   refine ⟨fin,?_⟩
   have m:(x,NameKind.free) ∈ scope.names:=by
     rcases fin with e | e
     · exact back x _ e (.inl rfl)
     · exact back x _ e (.inr rfl)
   exact fr _ m rfl
theorem k9_ {N':List Str} {C:Addr} {fp:List Addr} (I:Inv X pins σ H s) (B:BlockOk X N' scope) (hC:s.heap.objs.size ≤ C) (hf:∀ b ∈ fp,FpOk X pins H b ∧ b < s.heap.objs.size):(X.blockN N' scope ns C s H fp).Ok:=by
 have ok:=I.ok
 refine ⟨ok.mod,B.kind,ok.glob,ok.blt,hC,fun x y c h1 h2 => ok.inj x y c (B.sub x c h1) (B.sub y c h2),fun x hx => B.has x hx,fun x c h _ => (by cases h),ok.hd,ok.frames,.inl rfl,fun b hb => ⟨?_,fun x c e => ?_⟩,I.bs,
   Nat.le_trans ok.bsz I.sz,fun b o e hb => ?_,fun b hb h => ?_,I.stack,I.stkFree⟩
 · exact Nat.ne_of_lt (Nat.lt_of_lt_of_le (hf b hb).2 hC)
 · exact (hf b hb).1.2.2.2.2.1 x c (B.sub x c e)
 · have h1:=(I.ok.bs b o e).1
   rcases (hf b hb).1.2.2.2.1 with z | z
   · exact I.ok.noex b o e z
   · exact absurd (Nat.lt_of_lt_of_le (Heap.lt_size h1) z) (Nat.lt_irrefl _)
 · obtain ⟨⟨_,f1,f2,_⟩,_⟩:=hf b hb
   rcases List.mem_cons.mp (I.stkSub b h) with z | z
   · exact f1 z
   · exact f2 z
end
noncomputable def PTs (X:Cx) (ifs:List Expr) (t:TT):Prop :=
 ∀ (pins:List (Addr × Obj)) (s:Shared) (σ:St) (H:Hp) (Q:Bool→Hp→Prop),Inv X pins σ H s→t σ H Q→wpAny (model X.prog X.w) X.A (ka0_ ifs X.env) (TP X pins σ Q) X.xe s
noncomputable def tYes:TT:=fun _ H Q => Q true H
theorem xai_ {X:Cx}:PTs X [] tYes:=fun _ _ _ H _ I h => wpAny_tests_nil ⟨H,I,h⟩
theorem va0_ {X:Cx} {c:Expr} {tc:TT} (h:PT X c tc):PTs X [c] tc:=fun pins s σ H Q I q => wpAny_tests_one (h pins s σ H Q I q)
noncomputable def wai_ (J:It) (g:TG) (tc:TT) (te:TE) (D:Addr) (Q:VK) (σ0:St) (H0:Hp):Prop :=
 ∃ W:Nat→Nat→List V→St→Hp→Prop,(∃ m,W 0 m [] σ0 (upd H0 D (.lst []))) ∧ ∀ i m vals σ1 H,W i m vals σ1 H→H D = some (.lst vals) ∧
   ((J.stop i H ∧ Q (.ref D) H) ∨ (J.go i H ∧ vals.length < sizeLine ∧ ∀ x H',J.yld i H x H'→g x σ1 H' fun σ2 H2 => tc σ2 H2 fun b H3 =>
     if b = true then te σ2 H3 fun v H4 => H4 D = some (.lst vals) ∧ ∃ m',m' < m ∧ W (i + 1) m' (vals ++ [v]) σ2 (upd H4 D (.lst (vals ++ [v])))
     else ∃ m',m' < m ∧ W (i + 1) m' vals σ2 H3))
noncomputable def j6_ (wi:TI) (g:TG) (tc:TT) (te:TE) (k:Nat):TE:=fun σ H Q => wi σ H fun J H1 => ∀ D,H1 D = none→wai_ J g tc te D Q (σ ++ List.replicate k none) H1
section
variable {X:Cx} {scope:Scope} {ns:List Str} {tg iter elt:Expr} {ifs:List Expr} {pos:Pos} {wi:TI} {g:TG} {tc:TT} {te:TE} {pins:List (Addr × Obj)} {σ:St} {H2:Hp} {s2:Shared} {J:It} {fp:List Addr} {it:Addr} {tn:Nat→Heap→Prop}
theorem j1_ {N':List Str} {Q:VK} {E:Value→Shared→Prop} {RR:Value→Addr→Result→Shared→Prop} (hc:X.calm = true) (B:BlockOk X N' scope)
   (hg:∀ C s H fp,PG (X.blockN N' scope ns C s H fp) tg g) (ht:∀ C s H fp,PTs (X.blockN N' scope ns C s H fp) ifs tc) (he:∀ C s H fp,PE (X.blockN N' scope ns C s H fp) elt te)
   (I2:Inv X pins σ H2 s2) (T:Turn X.prog X.w X.K tg J fp it tn) (st:tn 0 s2.heap) (hf:∀ b ∈ fp,FpOk X pins H2 b) (h:∀ D,H2 D = none→wai_ J g tc te D Q (σ ++ List.replicate ns.length none) H2)
   (fin:∀ D C s' H',Inv X pins σ H' s'→(∃ m,s'.heap.Ns C m)→FpOk X pins H' C→Q (.ref D) H'→RR (.ref D) C (.ok .next) s') :
   wpAny (model X.prog X.w) X.A (newList []) (fun acc s₃ => wpAny (model X.prog X.w) X.A (newFunctionEnv scope X.env.globals (qd_ X.env scope.names []) [] X.env.qual none .none (some X.env)) (fun cenv s₄ =>
     codeAny (model X.prog X.w) X.A (.compStart (.ListComp elt [⟨tg,iter,ifs,0⟩] scope pos) 0 (.ref it) acc { cenv with scope:=relabel scope X.env }) (RR acc cenv.locals) s₄) E s₃) E s2:=by
 refine wpAny_newObj_type (wpAny_newFunctionEnv B.cell (by intro y hy; simp at hy) (fun h₁ hns₁ hsb₁ => ?_) B.kind)
 dsimp only at hns₁ hsb₁ ⊢
 generalize hH2:s2.heap.push { cls:=.type "list",dict:=none,data:=.seq ([]:List Value).toArray } = G at hns₁ hsb₁ ⊢
 have hC:G.objs.size = s2.heap.objs.size + 1:=by rw [← hH2,Heap.size_push]
 have hDC:s2.heap.objs.size ≠ G.objs.size:=by rw [hC]; exact Nat.ne_of_lt (Nat.lt_succ_self _)
 have hCle:s2.heap.objs.size ≤ G.objs.size:=by rw [hC]; exact Nat.le_succ _
 have old:∀ b o,s2.heap.get? b = some o→h₁.get? b = some o:=fun b o e => hsb₁.extBut b o (Nat.ne_of_lt (Nat.lt_of_lt_of_le (Heap.lt_size e) hCle)) (Heap.get?_push_of_some _ (hH2 ▸ Heap.get?_push_of_some _ e))
 have hacc:h₁.get? s2.heap.objs.size = some { cls:=.type "list",data:=.seq ([]:List Value).toArray }:=hsb₁.extBut _ _ hDC (Heap.get?_push_of_some _ (hH2 ▸ Heap.get?_push_size _ rfl))
 have hfresh:H2 s2.heap.objs.size = none:=I2.fresh
 have hfb:∀ b ∈ fp,FpOk X pins H2 b ∧ b < s2.heap.objs.size:=fun b hb => ⟨hf b hb,by (refine DX.x1_2 (T.obj _ _ st b hb) ?_; rintro o e _); exact Heap.lt_size e⟩
 have ok:(X.blockN N' scope ns G.objs.size s2 H2 fp).Ok:=k9_ I2 B hCle hfb
 (refine DX.x1_2 (h s2.heap.objs.size hfresh) ?_; rintro W ⟨m0,w0⟩ turn)
 have I0:Inv (X.blockN N' scope ns G.objs.size s2 H2 fp) [] (σ ++ List.replicate ns.length none) (upd H2 s2.heap.objs.size (.lst [])) { s2 with heap:=h₁,toks:=s2.toks + ([]:List (Str × Value)).length }:=by
   refine ⟨ok,rfl,I2.bare,Un.laid old (Nat.le_refl _) hfresh,⟨_,hns₁,fun i x v e1 e2 e3 => ?_⟩,fun x c e => ?_,?_,fun x c e => ?_,fun p hp => absurd (show p ∈ ([]:List (Addr × Obj)) from hp) (by simp),I2.hok.laid old (Nat.le_refl _) ⟨Nat.zero_le _,[],0,.nil,hacc⟩,?_⟩
   · -- a name of the def,seen through its cell
     have hi:i < σ.length:=by
       rcases Nat.lt_or_ge i σ.length with z | z
       · exact z
       · rw [List.getElem?_append_right z,List.getElem?_replicate] at e2
         split at e2 <;> cases e2
     rw [List.getElem?_append_left hi] at e2
     have e1:(N' ++ ns)[i]? = some x:=e1
     rw [List.getElem?_append_left (by rw [B.len,← I2.len]; exact hi)] at e1
     (refine DX.x0_3 (B.vis i x e1 e3) ?_; rintro e1 k1 k2)
     (refine DX.x1_2 I2.loc ?_; rintro m _ hl)
     have hv:Vis X.env.scope x:=by
       rcases k2 with z | z
       · exact .inr (.inl z)
       · exact .inr (.inr z)
     (refine DX.x1_2 (hl i x v e1 e2 hv) ?_; rintro u r l)
     refine ⟨u,r,.inr ⟨k1,?_⟩⟩
     rcases l with ⟨q,_⟩ | ⟨_,c,hc1,hc2⟩
     · rcases k2 with z | z
       · rw [z] at q; cases q
       · rw [z] at q; cases q
     · obtain ⟨c',hc'⟩:=B.has x k1
       have:=B.sub x c' hc'
       rw [hc1] at this
       cases this
       (refine DX.x1_2 hc2 ?_; try clear hc2; rintro o ho hd)
       exact ⟨c,hc',o,old c o ho,hd⟩
   · (refine DX.x2_2 (I2.cell x c (B.sub x c e)) ?_; rintro v o ho hd)
     exact ⟨v,o,old c o ho,hd⟩
   · show upd H2 s2.heap.objs.size (.lst []) G.objs.size = none
     rw [zb_ (Ne.symm hDC)]
     exact I2.hok.fresh hCle
   · have hc0:=I2.freeC x c (B.sub x c e)
     (refine DX.x2_2 (I2.cell x c (B.sub x c e)) ?_; rintro v o ho hd)
     rw [zb_ (Nat.ne_of_lt (Heap.lt_size ho))]
     exact hc0
   · show (σ ++ List.replicate ns.length none).length = (N' ++ ns).length
     rw [List.length_append,List.length_append,List.length_replicate,I2.len,B.len]
 have stat:∀ {H':Hp},(∀ b ∈ fp,H' b = none)→∀ b ∈ fp,FpOk (X.blockN N' scope ns G.objs.size s2 H2 fp) [] H' b:=fun hn b hb => by
   (refine DX.x0_6 (hf b hb) ?_; rintro _ f1 f2 f3 f4 f5)
   refine ⟨hn b hb,Nat.ne_of_lt (Nat.lt_of_lt_of_le (hfb b hb).2 hCle),fun z => ?_,.inl hb,fun x c e => f4 x c (B.sub x c e),fun p hp => absurd (show p ∈ ([]:List (Addr × Obj)) from hp) (by simp)⟩
   rcases List.mem_cons.mp (I2.stkSub b z) with z | z
   · exact f1 z
   · exact f2 z
 have fr0:∀ b ∈ fp,upd H2 s2.heap.objs.size (.lst []) b = none:=fun b hb => by
   rw [zb_ (Nat.ne_of_lt (hfb b hb).2)]
   exact (hf b hb).1
 have loop:∀ s₃:Shared,s₃ = { s2 with heap:=h₁,toks:=s2.toks + ([]:List (Str × Value)).length } →
     codeAny (model X.prog X.w) X.A (.compLoop (.ListComp elt [⟨tg,iter,ifs,0⟩] scope pos) 0 (.ref it) (.ref s2.heap.objs.size) (compEnvC scope (qd_ X.env scope.names []) G.objs.size X.env)) (RR (.ref s2.heap.objs.size) G.objs.size) s₃:=by
   rintro s₃ rfl
   refine x6_ (fun n s' => ∃ i vals σ1 H',Inv (X.blockN N' scope ns G.objs.size s2 H2 fp) [] σ1 H' s' ∧ tn i s'.heap ∧ (∀ b ∈ fp,H' b = none) ∧ W i n vals σ1 H') ?_ m0 ⟨0,[],_,_,I0,T.keep _ _ _ st fun b _ o e => old b o e,fr0,w0⟩
   rintro n s3 ⟨i,vals,σ1,H3,I3,st3,fr3,w3⟩
   obtain ⟨hD,cs⟩:=turn i n vals σ1 H3 w3
   rcases cs with ⟨stop,q⟩ | ⟨go,hsz,step⟩
   · refine thn (T.done (X.blockN N' scope ns G.objs.size s2 H2 fp) rfl rfl rfl hc i [] s3 σ1 H3 NoE I3 (stat fr3) st3 stop) fun r s4 ⟨hr,I4⟩ => ?_
     subst hr
     have I':Inv X pins σ H3 s4:=I2.call' (ch:=fp) I4.os I4.base I4.hok I4.bare fun b hb => by
       (refine DX.x0_6 (hf b hb) ?_; rintro _ f1 f2 f3 f4 f5)
       exact ⟨f3,f1,f4,f5⟩
     (refine DX.x1_2 I4.loc ?_; rintro m4 hn4 _)
     exact fin _ _ s4 H3 I' ⟨m4,hn4⟩ (I2.fpOk hCle I4.free) q
   · refine thn (T.item (X.blockN N' scope ns G.objs.size s2 H2 fp) rfl rfl rfl hc i [] s3 σ1 H3 NoE I3 (stat fr3) st3 go) fun r s4 ⟨u,hr,h4⟩ => ?_
     subst hr
     refine thn h4 fun _ s5 ⟨x,H5,I5,r5,y5,st5,fr5⟩ => ?_
     have I5':=I5.pinned (stat fr5) (T.obj _ _ st5)
     refine thn (hg G.objs.size s2 H2 fp _ s5 σ1 H5 x u _ I5' r5 (step x H5 y5)) fun _ s6 ⟨σ6,H6,I6,q6⟩ => ?_
     refine thn (ht G.objs.size s2 H2 fp _ s6 σ6 H6 _ I6 q6) fun b s7 ⟨H7,I7,q7⟩ => ?_
     have again:∀ {s':Shared} {σ':St} {H':Hp} {vs':List V},Inv (X.blockN N' scope ns G.objs.size s2 H2 fp) ([] ++ wu_ fp s5.heap) σ' H' s'→(∃ m',m' < n ∧ W (i + 1) m' vs' σ' H') →
         ∃ m,m < n ∧ ∃ i vals σ1 H',Inv (X.blockN N' scope ns G.objs.size s2 H2 fp) [] σ1 H' s' ∧ tn i s'.heap ∧ (∀ b ∈ fp,H' b = none) ∧ W i m vals σ1 H':=fun {s' σ' H' vs'} I' ⟨m',hm,w'⟩ => by
       refine ⟨m',hm,i + 1,vs',σ',H',I'.unpinned,T.keep _ _ _ st5 fun b hb o e => (I'.pin (b,o) (List.mem_append_right _ (List.mem_append_right _ (xg_ hb e)))).1,fun b hb => ?_,w'⟩
       (refine DX.x1_2 (T.obj _ _ st5 b hb) ?_; rintro o e d)
       exact (I'.pin (b,o) (List.mem_append_right _ (List.mem_append_right _ (xg_ hb e)))).2.1
     cases b with
     | false =>
       rw [if_neg Bool.false_ne_true] at q7
       rw [if_neg Bool.false_ne_true]
       exact again I7 q7
     | true =>
       rw [if_pos rfl] at q7
       rw [if_pos rfl]
       refine thn (he G.objs.size s2 H2 fp _ s7 σ6 H7 _ I7 q7) fun u8 s8 ⟨v8,H8,I8,r8,hD8,w8⟩ => ?_
       refine thn (wr_ (X:=X.blockN N' scope ns G.objs.size s2 H2 fp) _ s8 σ6 H8 (.ref s2.heap.objs.size) [v8] (.ref s2.heap.objs.size) [u8] _ I8 rfl (.cons r8 .nil) ⟨_,vals,v8,rfl,rfl,hD8,hsz,w8⟩) fun _ s9 ⟨_,H9,I9,_,q9⟩ => again I9 q9
 exact codeAny_compStart_list (loop _ rfl) (T.self X.A 0 _ _ _ (T.keep _ _ _ st fun b _ o e => old b o e) (loop _ rfl))
theorem kx_ {scF scB:Scope} {N:List Str} (h:ji_ scF scB N = true):ki_ scF scB N N = true:=by
 unfold ji_ at h
 unfold ki_
 simp only [Bool.and_eq_true,List.all_eq_true,bne_iff_ne,Bool.or_eq_true,beq_iff_eq] at h ⊢
 obtain ⟨⟨h1,h2⟩,h3⟩:=h
 refine ⟨⟨⟨h1,fun p hp => .inl ?_⟩,trivial⟩,h3⟩
 obtain ⟨i,hi⟩:=List.getElem?_of_mem hp
 rw [List.getElem?_zip_eq_some] at hi
 have e:p.1 = p.2:=Option.some.inj (hi.1.symm.trans hi.2)
 exact ⟨e,h2 p.1 (List.mem_of_getElem? hi.1)⟩
theorem xaq_ {N':List Str} (hc:X.calm = true) (chk:ki_ X.env.scope scope X.N N' = true) (hi:PI X tg iter wi)
   (hg:∀ C s H fp,PG (X.blockN N' scope ns C s H fp) tg g) (ht:∀ C s H fp,PTs (X.blockN N' scope ns C s H fp) ifs tc) (he:∀ C s H fp,PE (X.blockN N' scope ns C s H fp) elt te)
   (hs:autoParam (∀ x,foldedSetIterable iter X.env x = pure x) au3._auto_1):PE X (.ListComp elt [⟨tg,iter,ifs,0⟩] scope pos) (j6_ wi g tc te ns.length):=by
 intro pins s σ H Q I h
 have B:=w6_ I.ok chk
 rw [eval_ListComp]
 refine wpAny_comprehension_free (use:=none) rfl hs B.clos B.kind B.names (thn (hi pins s σ H _ I h) fun v s1 h1 => thn h1 fun itv s2 h2 => ?_)
 (refine DX.x5_6 h2 ?_; try clear h2; rintro it fp tn J H2 e I2 T st2 f2 hW)
 subst e
 refine j1_ (Q:=Q) (RR:=fun acc C => compPost (model X.prog X.w) X.A X.xe none (EP X pins σ Q) acc C) hc B hg ht he I2 T st2 f2 hW fun D C s' H' I' hn fc q => ?_
 obtain ⟨m,hn⟩:=hn
 (refine DX.x0_6 fc ?_; try clear fc; rintro c0 c1 c2 c3 c4 c5)
 exact ⟨m,hn,fun h' hs' => ⟨.ref D,H',I'.turned (t':=s'.toks) (fun b o hb e => hs'.extBut b o hb e) c0 c1 c3 c4 c5,rfl,q⟩⟩
theorem ua0_ (hc:X.calm = true) (chk:ji_ X.env.scope scope X.N = true) (hi:PI X tg iter wi)
   (hg:∀ C s H fp,PG (X.block scope ns C s H fp) tg g) (ht:∀ C s H fp,PTs (X.block scope ns C s H fp) ifs tc) (he:∀ C s H fp,PE (X.block scope ns C s H fp) elt te)
   (hs:autoParam (∀ x,foldedSetIterable iter X.env x = pure x) au3._auto_1):PE X (.ListComp elt [⟨tg,iter,ifs,0⟩] scope pos) (j6_ wi g tc te ns.length) :=
 xaq_ (N':=X.N) hc (kx_ chk) hi hg ht he hs
theorem k6_ {N':List Str} {i:Nat} {y:Str} {py spos:Pos} (hN:X.N.Nodup) (hi':X.N[i]? = some y) (hy:Loc X.env.scope y) (hc:X.calm = true) (chk:ki_ X.env.scope scope X.N N' = true) (hi:PI X tg iter wi)
   (hg:∀ C s H fp,PG (X.blockN N' scope ns C s H fp) tg g) (ht:∀ C s H fp,PTs (X.blockN N' scope ns C s H fp) ifs tc) (he:∀ C s H fp,PE (X.blockN N' scope ns C s H fp) elt te)
   (hsw:autoParam (swapsWith (.ListComp elt [⟨tg,iter,ifs,0⟩] scope pos) (some (.Name y py)) spos.line X.env = pure true) au1._auto_1)
   (hs:autoParam (∀ x,foldedSetIterable iter X.env x = pure x) au3._auto_1) (hf:autoParam (X.fn y = true ∨ X.env.scope.names.lookup y = some .local) au4._auto_1) :
   PS X (.Assign [.Name y py] (.ListComp elt [⟨tg,iter,ifs,0⟩] scope pos) spos) (tAsg (j6_ wi g tc te ns.length) (xag_ i)):=by
 intro pins s σ H D I h
 have B:=w6_ I.ok chk
 rw [exec_Assign_Name_used _ _ _ _ hsw]
 refine wpAny_bind (wpAny_standAt (wpAny_bind ?_))
 show wpAny _ X.A (do let _ ← comprehension (.ListComp elt [⟨tg,iter,ifs,0⟩] scope pos) scope X.env _ (newList []) false (eval iter X.env) (some (assign (.Name y py) X.env))) _ _ s
 refine wpAny_bind (wpAny_mono (wpAny_comprehension_free (use:=some (assign (.Name y py) X.env)) (Q:=fun _ s' => SP X pins D .next s') rfl hs B.clos B.kind B.names (thn (hi pins s σ H _ I h) fun v s1 h1 => thn h1 fun itv s2 h2 => ?_))
   (fun _ s' hq => wpAny_pure (wpAny_pure hq)) fun _ _ e => e)
 (refine DX.x5_6 h2 ?_; try clear h2; rintro it fp tn J H2 e I2 T st2 f2 hW)
 subst e
 refine j1_ (RR:=fun acc C => compPost (model X.prog X.w) X.A X.xe (some (assign (.Name y py) X.env)) (fun _ s' => SP X pins D .next s') acc C) hc B hg ht he I2 T st2 f2 hW fun A C s' H' I' hn fc q => ?_
 obtain ⟨m,hn⟩:=hn
 (refine DX.x0_6 fc ?_; try clear fc; rintro c0 c1 c2 c3 c4 c5)
 show wpAny _ X.A (assign (.Name y py) X.env (.ref A)) _ _ _
 refine wpAny_assign_Name (w0_ I' hN hi' hy (v:=.ref A) rfl (fun s3 I3 hsb => ?_) hf)
 (refine DX.x1_2 hsb ?_; try clear hsb; rintro a hs3 ha)
 have hCa:C ≠ a:=by
   rcases ha with z | z
   · rw [z]; exact c1
   · exact fun w => c4 _ _ z w.symm
 refine ⟨m,hn.sameBut hs3 hCa,fun h' hs' => ?_⟩
 exact ⟨_,H',I3.turned (t':=s3.toks) (fun b o hb e => hs'.extBut b o hb e) c0 c1 c3 c4 c5,q⟩
theorem wad_ {i:Nat} {y:Str} {py spos:Pos} (hN:X.N.Nodup) (hi':X.N[i]? = some y) (hy:Loc X.env.scope y) (hc:X.calm = true) (chk:ji_ X.env.scope scope X.N = true) (hi:PI X tg iter wi)
   (hg:∀ C s H fp,PG (X.block scope ns C s H fp) tg g) (ht:∀ C s H fp,PTs (X.block scope ns C s H fp) ifs tc) (he:∀ C s H fp,PE (X.block scope ns C s H fp) elt te)
   (hsw:autoParam (swapsWith (.ListComp elt [⟨tg,iter,ifs,0⟩] scope pos) (some (.Name y py)) spos.line X.env = pure true) au1._auto_1)
   (hs:autoParam (∀ x,foldedSetIterable iter X.env x = pure x) au3._auto_1) (hf:autoParam (X.fn y = true ∨ X.env.scope.names.lookup y = some .local) au4._auto_1) :
   PS X (.Assign [.Name y py] (.ListComp elt [⟨tg,iter,ifs,0⟩] scope pos) spos) (tAsg (j6_ wi g tc te ns.length) (xag_ i)) :=
 k6_ (N':=X.N) hN hi' hy hc (kx_ chk) hi hg ht he hsw hs hf
end
end L2
namespace L2
open PySem PySem.Spec PyProof.Rows
noncomputable def vx_ (h:Heap) (a:Addr):Prop:=∃ o vs,h.get? a = some o ∧ o.data = .fields vs ∧ vs[2]? = some .none
noncomputable def Trc (h base:Heap) (e:Addr) (cls a0:Value) (c2:Option Value) (fl:Value):Prop :=
 ∃ oe vs T oT ts,h.get? e = some oe ∧ oe.cls = cls ∧ oe.data = .fields vs ∧ vs[0]? = some a0 ∧ vs[2]? = c2 ∧ vs[1]? = some (.ref T) ∧ base.get? T = none ∧ T ≠ e ∧ h.get? T = some oT ∧ oT.data = .fields ts ∧ ts[3]? = some fl
theorem Trc.at {h base:Heap} {e:Addr} {cls a0 fl:Value} (x:h.TracedAtW base e cls a0 fl):∃ c2,Trc h base e cls a0 c2 fl:=by
 obtain ⟨oe,vs,T,oT,ts,he,hc,hd,h1,hn,hTe,hT,hdT,h3⟩:=x
 exact ⟨_,oe,vs,T,oT,ts,he,hc.1,hd,hc.2,rfl,h1,hn,hTe,hT,hdT,h3⟩
theorem Trc.atW {h base:Heap} {e:Addr} {cls a0 fl:Value} {c2:Option Value} (x:Trc h base e cls a0 c2 fl):h.TracedAtW base e cls a0 fl:=by
 obtain ⟨oe,vs,T,oT,ts,he,hc,hd,h0,_,h1,hn,hTe,hT,hdT,h3⟩:=x
 exact ⟨oe,vs,T,oT,ts,he,⟨hc,h0⟩,hd,h1,hn,hTe,hT,hdT,h3⟩
theorem Trc.nc {h base:Heap} {e:Addr} {cls a0 fl:Value} {c2:Option Value} (x:Trc h base e cls a0 c2 fl):vx_ h e ↔ c2 = some .none:=by
 obtain ⟨oe,vs,T,oT,ts,he,hc,hd,h0,h2,_⟩:=x
 constructor
 · rintro ⟨o,ws,e1,e2,e3⟩
   rw [he] at e1
   cases e1
   rw [hd] at e2
   cases e2
   rw [← h2,e3]
 · intro z
   exact ⟨oe,vs,he,hd,by rw [h2,z]⟩
section
variable {M:Model} {A:Around} {E:Value→Shared→Prop} {s:Shared} {base:Heap} {env:Env} {outer l:List Env} {L e:Addr} {cls a0 fl:Value} {c2:Option Value} {Q:Unit→Shared→Prop}
theorem v9_ {oe:Obj} {vs:Array Value} {head:Value} {hadNext:Bool} (hfr:A.frames = some (env :: outer)) (hl:s.heap.FunFrames base (env :: outer)) (hf:env.frame = some L)
   (he:s.heap.get? e = some oe) (hkb:base.StaysIn s.heap) (hen:base.get? e = none) (hd:oe.data = .fields vs) (hsz:1 < vs.size) (h0:vs[0]? = some a0)
   (h:∀ h',base.StaysIn h'→h'.FunFrames base (env :: outer)→Trc h' base e oe.cls a0 vs[2]? (rawInt L)→s.heap.UpToSlots h'→Q () { s with heap:=h' }) :
   wpAny M A (do let a ← frameOf env; let pl ← entryPlaceOf L hadNext; let b ← EntryCells.newEntry head a .none (rawInt L) .none pl; setField (.ref e) 1 b) Q E s:=by
 have apart:∀ b o,s.heap.get? b = some o→(∀ ws,o.data ≠ .fields ws)→b ≠ e:=fun b o hb nf z => by
   rw [z,he] at hb
   cases hb
   exact nf vs hd
 have nofr:e ∉ (env :: outer).filterMap (·.frame):=fun hm => by
   obtain ⟨_,o,ho,nf⟩:=hl.mem hm
   exact apart e o ho nf rfl
 refine wpAny_bind (wpAny_frameOf_fun hfr hl hf fun h1 k1 => wpAny_bind (wpAny_entryPlaceOf fun pl hpl => ?_))
 unfold EntryCells.newEntry newFields
 refine wpAny_bind (wpAny_newObj_type ?_ (hpl.sizeOk5 _ _ _ _ _))
 have e1:h1.get? e = some oe:=(k1.2.1 e nofr).trans he
 have ne:h1.objs.size ≠ e:=Nat.ne_of_gt (Heap.lt_size e1)
 refine wpAny_setField (Heap.get?_push_of_some _ e1) hd hsz ?_
 generalize hob:({ cls:=.type "traceback",dict:=none,data:=.fields ([head,.ref L,.none,rawInt L,.none] ++ (if pl.isEmpty then List.replicate 6 Value.none else pl)).toArray }:Obj) = ob
 have hobd:ob.data = .fields ([head,.ref L,.none,rawInt L,.none] ++ (if pl.isEmpty then List.replicate 6 Value.none else pl)).toArray:=by rw [← hob]
 have st1:base.StaysIn h1:=fun b o hb => (k1.2.1 b fun hm => by rw [(hl.mem hm).1] at hb; cases hb).trans (hkb b o hb)
 have dn:=Obj.data_mapFields hd (·.setIfInBounds 1 (Value.ref h1.objs.size))
 have keep:∀ b o,b ≠ e→h1.get? b = some o→((h1.push ob).update e (Obj.mapFields (·.setIfInBounds 1 (Value.ref h1.objs.size)))).get? b = some o:=fun b o hb q => by
   rw [Heap.get?_update_other _ _ (Ne.symm hb)]
   exact Heap.get?_push_of_some _ q
 refine h _ (fun b o hb => keep b o (fun z => by rw [z,hen] at hb; cases hb) (st1 b o hb)) (hl.of_keeps fun b o hb nf => ?_) ?_ fun b o hb nf => ?_
 · obtain ⟨sl,q⟩:=k1.2.2 b o hb
   exact ⟨_,keep b _ (apart b o hb nf) q,rfl⟩
 · refine ⟨_,_,h1.objs.size,ob,_,Heap.get?_update_self _ (Heap.get?_push_of_some _ e1) (Obj.isFreed_of_fields dn),Obj.cls_mapFields _ _,dn,?_,?_,by simp [hsz],st1.fresh,ne,(Heap.get?_update_other _ _ (Ne.symm ne)).trans (Heap.get?_push_size h1 (by rw [← hob]; rfl)),hobd,?_⟩
   · rw [Array.getElem?_setIfInBounds_ne (by decide)]; exact h0
   · rw [Array.getElem?_setIfInBounds_ne (by decide)]
   · first | (simp; done) | (rcases hpl with rfl | ⟨_,_,_,_,_,_,_,rfl⟩ <;> simp)
 · obtain ⟨sl,q⟩:=k1.2.2 b o hb
   exact ⟨sl,keep b _ (apart b o hb nf) q⟩
theorem qj_ {fr:Option Addr} (hkb:base.StaysIn s.heap) (hl:s.heap.FunFrames base l) (t:Trc s.heap base e cls a0 c2 fl)
   (h:∀ h',base.StaysIn h'→h'.FunFrames base l→Trc h' base e cls a0 c2 (fr.elim .none fun f => rawInt f)→s.heap.UpToSlots h'→Q () { s with heap:=h' }):wpAny M A (setFlight (.ref e) fr) Q E s:=by
 obtain ⟨oe,vs,T,oT,ts,he,hc,hd,h0,h2,h1,hn,hTe,hT,hdT,h3⟩:=t
 have sz:3 < ts.size:=(Array.getElem?_eq_some_iff.mp h3).1
 unfold setFlight
 refine wpAny_bind (wpAny_field he hd h1 ?_)
 rw [if_pos (show (Value.ref T != Value.none) = true from by simp)]
 refine wpAny_setField hT hdT sz ?_
 have oth:∀ b,b ≠ T→(s.heap.update T (Obj.mapFields (·.setIfInBounds 3 (fr.elim Value.none fun f => rawInt f)))).get? b = s.heap.get? b:=fun b hb => Heap.get?_update_other _ _ (Ne.symm hb)
 have apart:∀ b o,s.heap.get? b = some o→(∀ ws,o.data ≠ .fields ws)→b ≠ T:=fun b o hb nf z => by
   rw [z,hT] at hb
   cases hb
   exact nf ts hdT
 have dn:=Obj.data_mapFields hdT (·.setIfInBounds 3 (fr.elim Value.none fun f => rawInt f))
 refine h _ (fun b o hb => (oth b fun z => by rw [z,hn] at hb; cases hb).trans (hkb b o hb)) (hl.of_keeps fun b o hb nf => ⟨o,(oth b (apart b o hb nf)).trans hb,rfl⟩) ?_ fun b o hb nf => ⟨o.slots,(oth b (apart b o hb nf)).trans hb⟩
 exact ⟨oe,vs,T,_,_,(oth e (Ne.symm hTe)).trans he,hc,hd,h0,h2,h1,hn,hTe,Heap.get?_update_self _ hT (Obj.isFreed_of_fields dn),dn,by simp [sz]⟩
theorem v6_ (hfr:A.frames = some (env :: outer)) (hf:env.frame = some L) (hkb:base.StaysIn s.heap) (hen:base.get? e = none) (hl:s.heap.FunFrames base (env :: outer)) (t:Trc s.heap base e cls a0 c2 fl)
   (h:∀ h',base.StaysIn h'→h'.FunFrames base (env :: outer)→Trc h' base e cls a0 c2 (rawInt L)→s.heap.UpToSlots h'→Q () { s with heap:=h' }):wpAny M A (noteFrame (.ref e) env) Q E s:=by
 have t':=t
 obtain ⟨oe,vs,T,oT,ts,he,hc,hd,h0,h2,h1,hn,hTe,hT,hdT,h3⟩:=t
 subst hc h2
 unfold noteFrame
 simp only [hf]
 refine wpAny_bind (wpAny_field he hd h1 ?_)
 rw [if_pos (show (Value.ref T != Value.none) = true from by simp)]
 refine wpAny_bind (wpAny_field hT hdT h3 ?_)
 by_cases q:(fl == rawInt L) = true
 · rw [if_pos q]
   have:fl = rawInt L:=by simpa using q
   subst this
   exact wpAny_pure (h s.heap hkb hl t' (Heap.UpToSlots.refl _))
 · rw [if_neg q]
   refine wpAny_bind (wpAny_setField hT hdT (Array.getElem?_eq_some_iff.mp h3).1 ?_)
   have oth:∀ b,b ≠ T→(s.heap.update T (Obj.mapFields (·.setIfInBounds 3 Value.none))).get? b = s.heap.get? b:=fun b hb => Heap.get?_update_other _ _ (Ne.symm hb)
   have apart:∀ b o,s.heap.get? b = some o→(∀ ws,o.data ≠ .fields ws)→b ≠ T:=fun b o hb nf z => by
     rw [z,hT] at hb
     cases hb
     exact nf ts hdT
   exact v9_ hfr (hl.of_keeps fun b o hb nf => ⟨o,(oth b (apart b o hb nf)).trans hb,rfl⟩) hf ((oth e (Ne.symm hTe)).trans he) (fun b o hb => (oth b fun z => by rw [z,hn] at hb; cases hb).trans (hkb b o hb)) hen hd (Array.getElem?_eq_some_iff.mp h1).1 h0
     fun h' k1 k2 k3 k4 => h h' k1 k2 k3 fun b o hb nf => k4 b o ((oth b (apart b o hb nf)).trans hb) nf
theorem u9_ (hfr:A.frames = some (env :: outer)) (hf:env.frame = some L) (hkb:base.StaysIn s.heap) (hen:base.get? e = none) (hl:s.heap.FunFrames base (env :: outer)) (t:Trc s.heap base e cls a0 c2 fl)
   (h:∀ h',Heap.FlyingW base outer e cls a0 h'→s.heap.UpToSlots h'→(c2 = some .none→vx_ h' e)→Q () { s with heap:=h' }):wpAny M A (leaving env (.ref e)) Q E s:=by
 unfold leaving
 refine wpAny_bind (v6_ hfr hf hkb hen hl t fun h1 k1 k2 k3 k4 => qj_ k1 k2 k3 fun h2 j1 j2 j3 j4 => ?_)
 obtain ⟨_,_,j2'⟩:=j2
 exact h h2 ⟨j1,hen,j2',j3.atW⟩ (k4.trans j4) fun z => j3.nc.mpr z
theorem waq_ {oe:Obj} {vs:Array Value} (hfr:A.frames = some (env :: outer)) (hf:env.frame = some L) (hkb:base.StaysIn s.heap) (hen:base.get? e = none) (hl:s.heap.FunFrames base (env :: outer))
   (he:s.heap.get? e = some oe) (hd:oe.data = .fields vs) (h1:vs[1]? = some .none) (h0:vs[0]? = some a0)
   (h:∀ h',Heap.FlyingW base outer e oe.cls a0 h'→s.heap.UpToSlots h'→(vs[2]? = some .none→vx_ h' e)→Q () { s with heap:=h' }):wpAny M A (leaving env (.ref e)) Q E s:=by
 unfold leaving noteFrame
 simp only [hf]
 refine wpAny_bind (wpAny_bind (wpAny_field he hd h1 ?_))
 rw [if_neg (by decide)]
 refine v9_ hfr hl hf he hkb hen hd (Array.getElem?_eq_some_iff.mp h1).1 h0 fun h2 k1 k2 k3 k4 => qj_ k1 k2 k3 fun h3 j1 j2 j3 j4 => ?_
 obtain ⟨_,_,j2'⟩:=j2
 exact h h3 ⟨j1,hen,j2',j3.atW⟩ (k4.trans j4) fun z => j3.nc.mpr z
end
end L2
namespace L2
open PySem PySem.Spec PyProof.Rows
theorem vm_.there {P:Program} {w:World} {H:Hp} {h:Heap} {a:Addr} {o:HO} (x:vm_ P w H h a o):∃ u,h.get? a = some u:=by
 cases o with
 | lst xs => obtain ⟨_,_,_,_,e⟩:=x; exact ⟨_,e⟩
 | tup xs => obtain ⟨_,_,_,o,e,_⟩:=x; exact ⟨_,e⟩
 | dK kvs => obtain ⟨_,_,_,_,o,_,_,e,_⟩:=x; exact ⟨_,e⟩
 | dT kvs => obtain ⟨_,_,_,_,o,_,_,e,_⟩:=x; exact ⟨_,e⟩
 | set S n => (refine DX.x4_2 x ?_; try clear x; rintro o _ _ _ e _); exact ⟨_,e⟩
 | ins C dx fs => (refine DX.x0_5 x ?_; try clear x; rintro _ _ _ e _); exact ⟨_,e⟩
 | own y => obtain ⟨_,e⟩:=x; exact ⟨_,e⟩
 | xd fs => (refine DX.x1_2 x ?_; try clear x; rintro _ ⟨_,_,_,e,_⟩ _); exact ⟨_,e⟩
 | rng lo hi => (refine DX.x3_1 x ?_; try clear x; rintro _ _ _ e); exact ⟨_,e⟩
 | frz ob u => obtain ⟨e,_⟩:=x; exact ⟨_,e⟩
 | tbl ps => exact ⟨_,(show h.get? a = some _ from x)⟩
 | met f y => exact ⟨_,(show h.get? a = some _ from x)⟩
 | ext φ => (refine DX.x0_3 x ?_; try clear x; rintro _ ⟨o,e⟩ _); exact ⟨_,e⟩
noncomputable def CXm (P:Program) (w:World) (fl:Bool):CXT:=fun outer H s E e s' => ∃ (a:Addr) (C:Value) (t:Addr) (H':Hp) (B:Heap),e = .ref a ∧ s'.os = s.os ∧ AllBare s'.gens ∧ Heap.FlyingW B outer a C (.ref t) s'.heap ∧ HOk P w H' B ∧
 Un (frs outer) [] H H' s.heap s'.heap ∧ (∀ b o,s.heap.get? b = some o→b ∉ frs outer→∃ o',B.get? b = some o' ∧ (H b = none→o' = o)) ∧ s.heap.get? a = none ∧ (fl = true→vx_ s'.heap a) ∧ E C none H'
theorem CXm.E0 {P:Program} {w:World} {fl:Bool} {outer:List Env} {H:Hp} {s s':Shared} {e:Value} (h:CXm P w fl outer H s E0 e s'):False:=by
 obtain ⟨a,C,t,H',B,_,_,_,_,_,_,_,_,_,z⟩:=h
 exact z
theorem CXm.weak {P:Program} {w:World} {fl:Bool} {outer:List Env} {H:Hp} {s s':Shared} {E:XK} {e:Value} (h:CXm P w fl outer H s E e s'):CXm P w false outer H s E e s':=by
 obtain ⟨a,C,t,H',B,h1,h2,h3,h4,h5,h6,h7,h8,_,z⟩:=h
 exact ⟨a,C,t,H',B,h1,h2,h3,h4,h5,h6,h7,h8,fun q => (nomatch q),z⟩
section
variable {P:Program} {w:World} {K:PySem.W.Frag} {mg:Str→Option Value} {base:Heap} {N:List Str} {qual:Str} {scope:Scope} {f:Addr} {cd:Value} {A:Around} {outer:List Env} {s₀:Shared} {H₀:Hp} {E:XK} {fl:Bool}
noncomputable def q9_ (X:Cx) (E:XK):Prop:=∀ (pins:List (Addr × Obj)) (σ:St) (H:Hp) (s:Shared) (e C:Addr) (args:List Value) (h':Heap),Inv X pins σ H s→Heap.MadeExcOf s.heap h' e (.ref C) args→E (.ref C) none H→X.xe (.ref e) { s with heap:=h' }
theorem u6_ {X:Cx} {pins:List (Addr × Obj)} {σ:St} {H:Hp} {s:Shared} (I:Inv X pins σ H s):s.heap.FunFrames (PySem.W.hideAll s.heap (frs X.stack)) X.stack :=
 PySem.W.funFrames_hide I.stack fun env he b hb => List.mem_filterMap.mpr ⟨env,he,hb⟩
theorem jaq_ {X:Cx} {pins:List (Addr × Obj)} {σ:St} {H:Hp} {s:Shared} (I:Inv X pins σ H s):HOk X.prog X.w H (PySem.W.hideAll s.heap (frs X.stack)):=fun a o e => by
 refine (I.hok a o e).stay (fun b u hb q => PySem.W.hideAll_get _ q fun hm => ?_) (fun _ q => q) fun _ _ q => q
 have n:=I.stkFree b hm
 rcases hb with z | z
 · rw [z,e] at n; cases n
 · rw [z] at n; cases n
theorem Un.flight {H' H0:Hp} {h h1 h2 B:Heap} {fs:List Addr} (u:Un fs [] H0 H' h h1) (up:h1.UpToSlots h2) (hB:B.StaysIn h2) (hd:∀ b ∈ fs,∀ o,h1.get? b = some o→∀ vs,o.data ≠ .fields vs) (hf:∀ b ∈ fs,H0 b = none)
   (kB:∀ b o,h.get? b = some o→b ∉ fs→∃ o',B.get? b = some o' ∧ (H0 b = none→o' = o)):Un fs [] H0 H' h h2:=by
 refine ⟨fun b o e n hb _ => ?_,fun b o e n hb _ => ?_,u.free,fun b o e _ => ?_,u.tups,u.frzs,u.tbls⟩
 · (refine DX.x1_2 (kB b o e hb) ?_; rintro o' e' q)
   rw [← q n]
   exact hB b o' e'
 · obtain ⟨sl,e1⟩:=u.slot b o e n hb (by simp)
   obtain ⟨sl',e2⟩:=up b _ e1 (hd b hb _ e1)
   exact ⟨sl',e2⟩
 · by_cases hb:b ∈ fs
   · obtain ⟨sl,e1⟩:=u.slot b o e (hf b hb) hb (by simp)
     obtain ⟨sl',e2⟩:=up b _ e1 (hd b hb _ e1)
     exact ⟨_,e2⟩
   · (refine DX.x1_2 (kB b o e hb) ?_; rintro o' e' _)
     exact ⟨o',hB b o' e'⟩
theorem zf_ {h base':Heap} {l:List Env} (F:h.FunFrames base' l):∀ b ∈ frs l,∀ o,h.get? b = some o→∀ vs,o.data ≠ .fields vs:=fun b hb o e vs => by
 obtain ⟨_,o',e',d⟩:=F.mem hb
 rw [e] at e'
 cases e'
 exact d vs
noncomputable def vr_ (X:Cx) (E:XK) (fl:Bool):Prop:=∀ (pins:List (Addr × Obj)) (σ:St) (H:Hp) (s:Shared) (e C:Addr) (t:Addr) (oe:Obj) (vs:Array Value) (h':Heap),Inv X pins σ H s→(∀ b o,s.heap.get? b = some o→h'.get? b = some o)→s.heap.get? e = none →
 h'.get? e = some oe→oe.cls = .ref C→oe.data = .fields vs→vs[0]? = some (.ref t)→vs[1]? = some .none→(fl = true→vs[2]? = some .none)→E (.ref C) none H→X.xe (.ref e) { s with heap:=h' }
theorem xv_:vr_ (cxOf (CXm P w fl) P w K mg base N qual scope f cd A outer s₀ H₀ E) E fl:=by
 intro pins σ H s e C t oe vs h' I keeps new he hcl hd h0 h1 hfl q
 have ho:∀ b ∈ frs outer,b ∈ frs (cxOf (CXm P w fl) P w K mg base N qual scope f cd A outer s₀ H₀ E).stack:=fun b hb => by
   show b ∈ frs (envOfC qual scope s₀.heap.objs.size f cd :: outer)
   unfold frs at hb ⊢
   rw [List.filterMap_cons]
   exact List.mem_cons_of_mem _ hb
 have nst:∀ b,b < s₀.heap.objs.size→b ∉ frs outer→b ∉ frs (cxOf (CXm P w fl) P w K mg base N qual scope f cd A outer s₀ H₀ E).stack:=fun b hb hn z => by
   rcases List.mem_cons.mp (I.stkSub b z) with q | q
   · exact absurd (Nat.lt_of_lt_of_le hb I.ok.above) (by rw [q]; exact Nat.lt_irrefl _)
   · exact hn q
 have st:(PySem.W.hideAll s.heap (frs (cxOf (CXm P w fl) P w K mg base N qual scope f cd A outer s₀ H₀ E).stack)).StaysIn s.heap:=fun b o q => PySem.W.of_hideAll _ q
 show wpAny (model P w) (A.deeper (envOfC qual scope s₀.heap.objs.size f cd)) (leaving (envOfC qual scope s₀.heap.objs.size f cd) (.ref e)) _ _ _
 refine waq_ (s:={ s with heap:=h' }) (base:=PySem.W.hideAll s.heap (frs (cxOf (CXm P w fl) P w K mg base N qual scope f cd A outer s₀ H₀ E).stack)) I.ok.frames rfl (fun b o q => keeps b o (st b o q)) (by
   cases z:(PySem.W.hideAll s.heap (frs (cxOf (CXm P w fl) P w K mg base N qual scope f cd A outer s₀ H₀ E).stack)).get? e with
   | none => rfl
   | some o => have:=st e o z; rw [new] at this; cases this) ((u6_ I).of_keeps fun b o hb _ => ⟨o,keeps b o hb,rfl⟩) he hd h1 h0 fun h2 fl2 up nc => ?_
 have kB:∀ b o,s₀.heap.get? b = some o→b ∉ frs outer→∃ o',(PySem.W.hideAll s.heap (frs (cxOf (CXm P w fl) P w K mg base N qual scope f cd A outer s₀ H₀ E).stack)).get? b = some o' ∧ (H₀ b = none→o' = o):=fun b o e hb => by
   obtain ⟨o',e'⟩:=I.base.there b o e (by simp [cxOf])
   refine ⟨o',PySem.W.hideAll_get _ e' (nst b (Heap.lt_size e) hb),fun n => ?_⟩
   have:=I.base.keep b o e n hb (by simp [cxOf])
   rw [e'] at this
   exact Option.some.inj this
 rw [hcl] at fl2
 refine ⟨e,.ref C,t,H,_,rfl,I.os,I.bare,fl2,jaq_ I,?_,kB,?_,fun z => nc (hfl z),q⟩
 · have u1:Un (frs outer) [] H₀ H s₀.heap h':=I.base.trans (Un.kept keeps)
   refine u1.flight up fl2.1 (fun b hb o e' => ?_) (fun b hb => I.ok.frf b hb) kB
   have fd:=zf_ (I.stack) b (ho b hb)
   obtain ⟨_,o2,e2,_⟩:=I.stack.mem (ho b hb)
   have e3:=keeps b o2 e2
   rw [e'] at e3
   cases e3
   exact fd o e2
 · cases z:s₀.heap.get? e with
   | none => rfl
   | some o =>
     obtain ⟨o',e'⟩:=I.base.there e o z (by simp [cxOf])
     rw [new] at e'
     cases e'
theorem vr_.made {X:Cx} {E:XK} {fl:Bool} (h:vr_ X E fl):q9_ X E:=fun pins σ H s e C args h' I hx q => by
 obtain ⟨t,he,_,_⟩:=hx.there
 exact h pins σ H s e C t _ _ h' I hx.keeps hx.new he rfl rfl rfl rfl (fun _ => rfl) q
theorem ze_:q9_ (cxOf (CXm P w fl) P w K mg base N qual scope f cd A outer s₀ H₀ E) E:=xv_.made
theorem jad_:ua9_ (CXm P w fl) (cxOf (CXm P w fl) P w K mg base N qual scope f cd A outer s₀ H₀ E) E:=by
 intro pins σ H s e s' I h
 obtain ⟨a,C,t,H',B,rfl,os,bare,fg,hok,un,kB,new,hnc,q⟩:=h
 obtain ⟨c2,tr⟩:=Trc.at fg.2.2.2
 have I':Inv (cxOf (CXm P w fl) P w K mg base N qual scope f cd A outer s₀ H₀ E) pins σ H' s':=I.call' (ch:=[]) os un (hok.kept fg.1) bare fun b z => absurd z (by simp)
 have ho:∀ b ∈ frs outer,b ∈ frs (cxOf (CXm P w fl) P w K mg base N qual scope f cd A outer s₀ H₀ E).stack:=fun b hb => by
   show b ∈ frs (envOfC qual scope s₀.heap.objs.size f cd :: outer)
   unfold frs at hb ⊢
   rw [List.filterMap_cons]
   exact List.mem_cons_of_mem _ hb
 have nst:∀ b,b < s₀.heap.objs.size→b ∉ frs outer→b ∉ frs (cxOf (CXm P w fl) P w K mg base N qual scope f cd A outer s₀ H₀ E).stack:=fun b hb hn z => by
   rcases List.mem_cons.mp (I.stkSub b z) with q | q
   · exact absurd (Nat.lt_of_lt_of_le hb I.ok.above) (by rw [q]; exact Nat.lt_irrefl _)
   · exact hn q
 show wpAny (model P w) (A.deeper (envOfC qual scope s₀.heap.objs.size f cd)) (leaving (envOfC qual scope s₀.heap.objs.size f cd) (.ref a)) _ _ _
 refine u9_ I.ok.frames rfl fg.1 fg.2.1 fg.2.2.1 tr fun h2 fl2 up nc => ?_
 have kB2:∀ b o,s₀.heap.get? b = some o→b ∉ frs outer→∃ o',B.get? b = some o' ∧ (H₀ b = none→o' = o):=fun b o e hb => by
   obtain ⟨o1,e1⟩:=I.base.there b o e (by simp [cxOf])
   (refine DX.x1_2 (kB b o1 e1 (nst b (Heap.lt_size e) hb)) ?_; rintro o' e' q')
   refine ⟨o',e',fun n => ?_⟩
   have k1:=I.base.keep b o e n hb (by simp [cxOf])
   rw [e1] at k1
   cases k1
   exact q' (I.base.free b o e n (by simp [cxOf]))
 refine ⟨a,C,t,H',B,rfl,I'.os,I'.bare,fl2,hok,?_,kB2,?_,fun z => nc (tr.nc.mp (hnc z)),q⟩
 · have u1:Un (frs outer) [] H₀ H' s₀.heap s'.heap:=I'.base
   refine u1.flight up fl2.1 (fun b hb o e' => zf_ I'.stack b (ho b hb) o e') (fun b hb => I.ok.frf b hb) kB2
 · cases z:s₀.heap.get? a with
   | none => rfl
   | some o =>
     obtain ⟨o',e'⟩:=I.base.there a o z (by simp [cxOf])
     rw [new] at e'
     cases e'
end
noncomputable def bmV:List Value:=[.type "ValueError",.type "Exception",.type "BaseException",.type "object"]
structure ExcCls (K:PySem.W.Frag) (mg:Str→Option Value) (x:Str) (C:Addr):Prop where
 bound:mg x = some (.ref C)
 exc:PySem.W.excIn K C bmV "ValueError.__new__" = true
theorem jai_ {K:PySem.W.Frag} {h:Heap} {C:Addr} {bmB:List Value} {newId:String} (X:K.In h) (q:PySem.W.excIn K C bmB newId = true) :
   ∃ bm N nm q bs hdct sn sub ab col dd k0 k1 k2 k3 k5 mN,h.get? C = some (excClassObj nm q C N bs bm hdct sn sub ab col dd k0 k1 k2 k3 k5 newId) ∧ h.Ns N mN ∧ mN "__init__" = none ∧ OwnTail h bmB bm:=by
 unfold PySem.W.excIn at q
 split at q
 · rename_i dd cd sl ho
   split at q
   · rename_i C' bm k0 k1 k2 k3 n k5 hm hs
     simp only [Bool.and_eq_true,beq_iff_eq,Bool.not_eq_true'] at q
     obtain ⟨⟨⟨⟨⟨rfl,rfl⟩,hdel⟩,ht⟩,hok⟩,hni⟩:=q
     obtain ⟨nm,bs,mro,ns,qn,hd,sn,sub,ab,col,del⟩:=cd
     dsimp only at hm hdel hok hni
     subst hm hdel
     have hsl:sl = #[k0,k1,k2,k3,some (.builtin n),k5]:=by
       obtain ⟨l⟩:=sl
       simp only at hs
       rw [hs]
     subst hsl
     exact ⟨bm,ns,nm,qn,bs,hd,sn,sub,ab,col,dd,k0,k1,k2,k3,k5,_,X _ _ ho,.of_isNs (PySem.W.isNs_of_in X hok),PySem.W.nsMap_none_of_in X hok hni,PySem.W.tail_of_in X ht⟩
   · cases q
 · cases q
noncomputable def kba_ (te:TE) (C:Addr) (E:XK):TS:=fun _ σ H => te σ H fun _ H1 => E (.ref C) none H1
theorem kaq_ {X:Cx} {x:Str} {C:Addr} {e₀:Expr} {te:TE} {E:XK} {np cpos pos:Pos} (hc:X.calm = true) (hr:q9_ X E) (hC:ExcCls X.K X.mg x C) (hg:Gl X x) (he:PE X e₀ te) (hd:autoParam ((x == ("__debug__":Str)) = false) au2._auto_1)
   (hst:autoParam (starEach [e₀] X.env = [(false,eval e₀ X.env)]) au1._auto_1):PS X (.Raise (some (.Call (.Name x np) [e₀] [] cpos)) none pos) (kba_ te C E):=by
 intro pins s σ H D I h
 obtain ⟨tl,N,nm,q,bs,hdct,sn,sub,ab,col,dd,k0,k1,k2,k3,k5,mN,hCo,hN,hni,T⟩:=jai_ (h:=X.base) I.ok.mod.kin hC.exc
 refine wpAny_Raise_call_subT (C:=C) (nm:=nm) (q:=q) (N:=N) (bs:=bs) (bm:=tl) (hdct:=hdct) (sn:=sn) (sub:=sub) (ab:=ab) (col:=col) (dd:=dd) (k0:=k0) (k1:=k1) (k2:=k2) (k3:=k3) (k5:=k5)
   PySem.F.excBase_ValueError (mN:=mN) (T.hasType PySem.F.excBase_ValueError.hasBase) (I.ok.hd hc) (by rw [hst]; rfl) hni (u5_ I hg hC.bound ⟨rfl,?_⟩ hd)
 rw [hst]
 refine Calls.evalArgs_plain (Calls.spliced_cons (thn (he pins s σ H _ I h) fun u s1 ⟨v,H1,I1,r1,q1⟩ => ?_))
 refine Calls.spliced_nil ⟨rfl,(by show 1 ≤ sizeLine; decide),I1.bk _ _ hCo,hN.keeps I1.bk,T.keeps I1.bk,fun h' e hx => hr pins σ H1 s1 e C _ h' I1 hx q1⟩
noncomputable def zm_ (CX:CXT) (X:Cx) (Ex:St→XK):Prop:=∀ (pins:List (Addr × Obj)) (σ:St) (H:Hp) (s:Shared) (e:Value) (s':Shared),Inv X pins σ H s→CX X.stack H s (Ex σ) e s'→X.xe e s'
noncomputable def vba_ (sp:Sp) (dvs:List V) (Ex:St→XK) (t:TA):TE:=fun σ H Q => t σ H fun vs H1 => sp (vs ++ dvs) H1 Q (Ex σ)
section
variable {X:Cx} {CX:CXT} {k:Nat} {f C:Addr} {fd:FuncData} {ps:List Str} {sp:Sp} {dvs:List V} {ds:List Value} {Ex:St→XK} {x m:Str} {p pos apos:Pos} {e o:Expr} {es:List Expr} {ta:TE} {t:TA}
theorem qa0_ {pins:List (Addr × Obj)} {σ:St} {H:Hp} {s:Shared} {Q:VK} {us:List Value} {vs:List V} (F:FnOk X.prog X.w X.K X.mg X.base CX k f fd ps sp) (hr:Room k X.A) (hb:y6_ X.K fd ps ds) (hd:Vals dvs ds) (hx:zm_ CX X Ex)
   (I:Inv X pins σ H s) (r:Vals vs us) (h:sp (vs ++ dvs) H Q (Ex σ)):wpAny (model X.prog X.w) X.A (call (.ref f) us) (EP X pins σ Q) X.xe s:=by
 have r2:Vals (vs ++ dvs) (us ++ ds):=r.append hd
 have hl:(us ++ ds).length = ps.length:=by rw [← r2.length]; exact F.len _ _ _ _ h
 refine wpAny_call (codeAny_mono (F.run X.A X.stack s H ⟨us,[]⟩ (us ++ ds) (vs ++ dvs) Q (Ex σ) hr I.env0 (hb s us I.kIn hl) r2 h) fun r s' hq => ?_)
 cases r with
 | error e => exact hx pins σ H s e s' I hq
 | ok fl =>
   cases fl with
   | ret u => exact I.after hq
   | next => exact False.elim hq
   | brk => exact False.elim hq
   | cont => exact False.elim hq
theorem vaq_ (F:FnOk X.prog X.w X.K X.mg X.base CX k f fd ps sp) (hr:Room k X.A) (hg:Gl X x) (hm:X.mg x = some (.ref f)) (hk:PySem.W.keepIn X.K (.ref f) = true) (hb:y6_ X.K fd ps ds) (hd:Vals dvs ds) (hx:zm_ CX X Ex)
   (ha:PA X (e :: es) t) (hdb:autoParam ((x == ("__debug__":Str)) = false) au2._auto_1) (he:autoParam (starEach (e :: es) X.env = (false,eval e X.env) :: starEach es X.env) au1._auto_1) (hpl:autoParam ((backTo pos (starEach es X.env)).any (·.1) = false) au1._auto_1) :
   PE X (.Call (.Name x p) (e :: es) [] pos) (vba_ sp dvs Ex t):=by
 intro pins s σ H Q I h
 refine wpAny_Call_Name_kw (u5_ I hg hm ?_ hdb)
 refine PySem.W.callWith_K (h₀:=X.base) I.ok.mod.kin hk (thn (ha pos pins s σ H _ I h) fun us s1 ⟨vs,H1,I1,r,q⟩ => ⟨I1.kIn,?_⟩) he hpl
 exact qa0_ F hr hb hd hx I1 r q
end
section
variable {P:Program} {w:World} {K:PySem.W.Frag} {mg:Str→Option Value} {base:Heap} {fl:Bool}
theorem Fun.okM {x qual:Str} {st:Stmt} {f:Addr} {fd:FuncData} {N ps:List Str} {k:Nat} {sp:Sp} (F:Fun K x qual st f fd) (S:FnScope N ps (jb_ st)) (len:∀ vs H Q E,sp vs H Q E→vs.length = ps.length)
   (hbody:∀ (cdv:Value) (A:Around) (outer:List Env) (s:Shared) (H:Hp) (vs:List V) (Q:VK) (E:XK),Room k (A.deeper (envOfC qual (jb_ st) s.heap.objs.size f cdv))→sp vs H Q E →
     ∃ t,PSs (cxOf (CXm P w fl) P w K mg base N qual (jb_ st) f cdv A outer s H E) (jg_ st) t ∧ t { nx:=fun _ H' => Q .non H',rt:=Q } (xq_ N vs) H):FnOk P w K mg base (CXm P w fl) (k + 1) f fd ps sp:=by
 obtain ⟨oc,od,kV,doc,pm,an,cdv,ct,osl,rfl,lk,hcd⟩:=F.ex
 exact ubi_ lk hcd S len fun A outer s H vs Q E hr hsp => hbody cdv A outer s H vs Q E hr hsp
end
noncomputable def ExcO (a:Addr) (C:Value):HO:=.ext fun h => ∃ o vs,h.get? a = some o ∧ o.cls = C ∧ o.data = .fields vs
noncomputable abbrev Cx.tryX (X:Cx) (pins:List (Addr × Obj)) (Ex:St→XK) (fl:Bool:=false):Cx :=
 { X with pn:=X.pn ++ pins,xe:=fun e s' => ∃ σ H s,Inv X pins σ H s ∧ CXm X.prog X.w fl X.stack H s (Ex σ) e s' }
noncomputable abbrev Cx.inExc (X:Cx) (a:Addr):Cx:={ X with A:=X.A.mark (some (.ref a)),calm:=false,xe:=NoE }
section
variable {X:Cx} {pins:List (Addr × Obj)} {σ:St} {H:Hp} {s:Shared} {Ex:St→XK} {fl:Bool}
theorem Cx.Ok.tryX (ok:X.Ok):(X.tryX pins Ex fl).Ok:=⟨ok.mod,ok.kind,ok.glob,ok.blt,ok.above,ok.inj,ok.has,ok.cab,ok.hd,ok.frames,ok.stk,ok.exf,ok.bs,ok.bsz,ok.noex,ok.exfs,ok.funs,ok.frf⟩
theorem Inv.toTry (I:Inv X pins σ H s) (Ex:St→XK):Inv (X.tryX pins Ex fl) [] σ H s:=⟨I.ok.tryX,I.os,I.bare,I.base,I.loc,I.cell,I.free,I.freeC,fun p hp => I.pin p (by simpa using hp),I.hok,I.len⟩
theorem Inv.ofTry {pins':List (Addr × Obj)} (ok:X.Ok) (I:Inv (X.tryX pins Ex fl) pins' σ H s):Inv X pins σ H s:=⟨ok,I.os,I.bare,I.base,I.loc,I.cell,I.free,I.freeC,fun p hp => I.pin p (List.mem_append_left _ hp),I.hok,I.len⟩
theorem kk_ (ok:X.Ok):zm_ (CXm X.prog X.w fl) (X.tryX pins Ex fl) Ex:=fun pins' σ H s e s' I h => ⟨σ,H,s,I.ofTry ok,h⟩
theorem Cx.Ok.inExc {a:Addr} (ok:X.Ok) (hm:autoParam ((X.A.mark (some (.ref a))).frames = X.A.frames) au1._auto_1):(X.inExc a).Ok:=⟨ok.mod,ok.kind,ok.glob,ok.blt,ok.above,ok.inj,ok.has,ok.cab,fun h => (by cases h),hm.trans ok.frames,ok.stk,ok.exf,ok.bs,ok.bsz,ok.noex,ok.exfs,ok.funs,ok.frf⟩
theorem Inv.toExc {a:Addr} (I:Inv X pins σ H s):Inv (X.inExc a) pins σ H s:=⟨I.ok.inExc,I.os,I.bare,I.base,I.loc,I.cell,I.free,I.freeC,I.pin,I.hok,I.len⟩
theorem Inv.ofExc {a:Addr} (ok:X.Ok) (I:Inv (X.inExc a) pins σ H s):Inv X pins σ H s:=⟨ok,I.os,I.bare,I.base,I.loc,I.cell,I.free,I.freeC,I.pin,I.hok,I.len⟩
theorem Inv.unbound {i:Nat} {x:Str} {m:Str→Option Value} {v:Option Value} {h':Heap} {t':Nat} (I:Inv X pins σ H s) (hN:X.N.Nodup) (hi:X.N[i]? = some x)
   (hl:∀ (i:Nat) (x:Str) (v:V),X.N[i]? = some x→σ[i]? = some (some v)→Vis X.env.scope x→∃ u,RelV v u ∧ Look X.env s.heap m x u)
   (hn':h'.Ns X.env.locals (fun y => if y = x then v else m y)) (hs:Heap.SameBut X.env.locals s.heap h'):Inv X pins (σ.set i none) H { s with heap:=h',toks:=t' }:=by
 have cne:=I.cne
 (refine DX.x1_2 (id I.loc) ?_; rintro mm ⟨oL,_,_,hoL,_⟩ _)
 have tracked:HOk X.prog X.w H h':=fun b ob e => by
   refine (I.hok b ob e).stay (fun c w' hc q => (hs.2 c ?_).trans q) (fun _ q => q) fun _ _ q => q
   rintro rfl
   have hfree:=I.free
   rcases hc with rfl | hc
   · rw [hfree] at e; cases e
   · rw [hfree] at hc; cases hc
 refine ⟨I.ok,I.os,I.bare,⟨fun b o e n hb hx => ?_,fun b o e n hb hx => ?_,I.base.free,fun b o e hx => ?_,I.base.tups,I.base.frzs,I.base.tbls⟩,⟨_,hn',fun j y v' e1 e2 e3 => ?_⟩,fun y c e => ?_,I.free,I.freeC,fun p hp => ?_,tracked,by simpa using I.len⟩
 · exact (hs.2 b (Nat.ne_of_lt (Nat.lt_of_lt_of_le (Heap.lt_size e) I.ok.above))).trans (I.base.keep b o e n hb hx)
 · obtain ⟨sl,e1⟩:=I.base.slot b o e n hb hx
   exact ⟨sl,(hs.2 b (Nat.ne_of_lt (Nat.lt_of_lt_of_le (Heap.lt_size e) I.ok.above))).trans e1⟩
 · obtain ⟨o',e1⟩:=I.base.there b o e hx
   exact ⟨o',(hs.2 b (Nat.ne_of_lt (Nat.lt_of_lt_of_le (Heap.lt_size e) I.ok.above))).trans e1⟩
 · by_cases hj:j = i
   · subst hj
     rw [List.getElem?_set] at e2
     split at e2
     · split at e2 <;> cases e2
     · rename_i z; exact absurd rfl z
   · rw [List.getElem?_set_ne (Ne.symm hj)] at e2
     (refine DX.x1_2 (hl j y v' e1 e2 e3) ?_; rintro u' r' q)
     refine ⟨u',r',?_⟩
     rcases q with ⟨k,e⟩ | ⟨k,c,e,z⟩
     · refine .inl ⟨k,?_⟩
       have:y ≠ x:=fun e => hj (zx_ hN e1 (e ▸ hi))
       simp [this,e]
     · exact .inr ⟨k,c,e,z.sameBut hs (cne y c e)⟩
 · obtain ⟨w',z⟩:=I.cell y c e
   exact ⟨w',z.sameBut hs (cne y c e)⟩
 · (refine DX.x0_5 (I.pin p hp) ?_; rintro e n ne nf d)
   exact ⟨(hs.2 p.1 ne).trans e,n,ne,nf,d⟩
theorem Inv.landed {a t:Addr} {C:Value} {H':Hp} {B:Heap} {s':Shared} {h2:Heap} {tk:Nat} (I:Inv X pins σ H s) (os:s'.os = s.os) (bare:AllBare s'.gens) (fl:Heap.FlyingW B X.stack a C (.ref t) s'.heap) (hok:HOk X.prog X.w H' B) (un:Un (frs X.stack) [] H H' s.heap s'.heap)
   (kB:∀ b o,s.heap.get? b = some o→b ∉ frs X.stack→∃ o',B.get? b = some o' ∧ (H b = none→o' = o)) (hB:B.StaysIn h2) (up:s'.heap.UpToSlots h2):Inv X pins σ H' { s' with heap:=h2,toks:=tk }:=by
 have u2:Un (frs X.stack) [] H H' s.heap h2:=un.flight up hB (fun b hb o e => zf_ fl.2.2.1 b hb o e) I.stkFree kB
 exact I.call' (s':={ s' with heap:=h2,toks:=tk }) (ch:=[]) os u2 (hok.kept hB) bare fun b z => absurd z (by simp)
theorem Inv.landedO {a t:Addr} {C:Value} {H':Hp} {B:Heap} {s':Shared} {h2:Heap} {tk:Nat} (I:Inv X pins σ H s) (os:s'.os = s.os) (bare:AllBare s'.gens) (fl:Heap.FlyingW B X.stack a C (.ref t) s'.heap) (hok:HOk X.prog X.w H' B) (un:Un (frs X.stack) [] H H' s.heap s'.heap)
   (kB:∀ b o,s.heap.get? b = some o→b ∉ frs X.stack→∃ o',B.get? b = some o' ∧ (H b = none→o' = o)) (new:s.heap.get? a = none) (fl2:Heap.FlyingW B X.stack a C (.ref t) h2) (up:s'.heap.UpToSlots h2) :
   Inv X pins σ (upd H' a (ExcO a C)) { s' with heap:=h2,toks:=tk } ∧ H' a = none:=by
 have u2:Un (frs X.stack) [] H H' s.heap h2:=un.flight up fl2.1 (fun b hb o e => zf_ fl.2.2.1 b hb o e) I.stkFree kB
 have na:H' a = none:=by
   cases q:H' a with
   | none => rfl
   | some o =>
     obtain ⟨u,e⟩:=(hok a o q).there
     rw [fl.2.1] at e
     cases e
 have ne:∀ b o,s.heap.get? b = some o→b ≠ a:=fun b o e z => by rw [z,new] at e; cases e
 have neH:∀ b o,H b = some o→b ≠ a:=fun b o e => by
   obtain ⟨u,e'⟩:=(I.hok b o e).there
   exact ne b u e'
 have u3:Un (frs X.stack) [] H (upd H' a (ExcO a C)) s.heap h2:=by
   refine ⟨u2.keep,u2.slot,fun b o e n hx => ?_,u2.there,fun b xs e => ?_,fun b o u e => ?_,fun b ps e => ?_⟩
   · rw [zb_ (ne b o e)]; exact u2.free b o e n hx
   · rw [zb_ (neH b _ e)]; exact u2.tups b xs e
   · rw [zb_ (neH b _ e)]; exact u2.frzs b o u e
   · rw [zb_ (neH b _ e)]; exact u2.tbls b ps e
 (refine DX.x2_4 fl2.first ?_; rintro oe vs he hc hd _)
 have hk2:HOk X.prog X.w (upd H' a (ExcO a C)) h2:=fun b o e => by
   by_cases hb:b = a
   · subst hb
     rw [yb_] at e
     cases e
     refine ⟨⟨oe,vs,he,hc,hd⟩,⟨oe,he⟩,fun h1 h3 x k => ?_⟩
     (refine DX.x2_3 x ?_; try clear x; rintro o vs' q1 q2 q3)
     exact ⟨o,vs',k o q1,q2,q3⟩
   · rw [zb_ hb] at e
     have x:=hok.kept fl2.1 b o e
     refine x.stay (fun _ _ _ q => q) (fun c q => ?_) fun c xs q => ?_
     · rw [zb_ (wb_ q na)]; exact q
     · rw [zb_ (wb_ q na)]; exact q
 exact ⟨I.call' (s':={ s' with heap:=h2,toks:=tk }) (ch:=[]) os u3 hk2 bare fun b z => absurd z (by simp),na⟩
end
noncomputable def exOf (K:PySem.W.Frag) (CM:Addr) (i:Nat) (ts:TS) (D:Ends):St→XK:=fun σ C _ H' => PySem.W.exmOne K C (.ref CM) = some true ∧ ∀ a,H' a = none→ts { nx:=fun σ' H2 => D.nx (σ'.set i none) H2,rt:=D.rt,bk:=fun σ' H2 => D.bk (σ'.set i none) H2,ct:=fun σ' H2 => D.ct (σ'.set i none) H2 } (σ.set i (some (.ref a))) (upd H' a (ExcO a C))
noncomputable def tTry (K:PySem.W.Frag) (CM:Addr) (i:Nat) (tb:(St→XK)→TS) (ts:TS):TS:=fun D σ H => tb (exOf K CM i ts D) D σ H
theorem ux_ {X:Cx} {A:Around} {E:Value→Shared→Prop} {pins:List (Addr × Obj)} {s:Shared} {σ:St} {H:Hp} {x:Str} {u:Value} {pos:Pos} {Q:Value→Shared→Prop} (I:Inv X pins σ H s) (hg:Gl X x) (hm:X.mg x = some u) (h:Q u s)
   (hd:autoParam ((x == ("__debug__":Str)) = false) au2._auto_1):wpAny (model X.prog X.w) A (eval (.Name x pos) X.env) Q E s :=
 Calls.Name_function_global I.ok.kind hg (Calls.loadGlobal_global (by rw [I.ok.glob]; exact I.mod.glob.keeps I.bk) hm h) hd
theorem uba_ {X:Cx} {M n:Str} {CM:Addr} {i:Nat} {body:List Stmt} {b₀:Stmt} {suite:List Stmt} {np hpos pos:Pos} {tb:(St→XK)→TS} {ts:TS} (hN:X.N.Nodup) (hi:X.N[i]? = some n) (hn:X.env.scope.names.lookup n = some .local) (hg:Gl X M) (hM:X.mg M = some (.ref CM))
   (hb:∀ pins Ex,X.Ok→PSs (X.tryX pins Ex) body (tb Ex)) (hs:∀ a,PSs (X.inExc a) (b₀ :: suite) ts) (hd:autoParam ((M == ("__debug__":Str)) = false) au2._auto_1) (hf:autoParam (X.env.frame = some X.env.locals) au1._auto_1) (hst:autoParam (X.stack = X.env :: X.outer) au1._auto_1) :
   PS X (.Try body [.ExceptHandler (some (.Name M np)) (some n) (b₀ :: suite) hpos] [] [] pos) (tTry X.K CM i tb ts):=by
 intro pins s σ H D I h
 refine wpAny_Try_except (wpAny_mono (hb pins _ I.ok [] s σ H D (I.toTry _) h) (fun fl s1 q => ?_) fun e s1 q => ?_)
 · cases fl with
   | next =>
     (refine DX.x2_2 q ?_; try clear q; rintro σ' H' I' q)
     exact wpAny_execs_nil ⟨σ',H',I'.ofTry I.ok,q⟩
   | brk => (refine DX.x2_2 q ?_; try clear q; rintro σ' H' I' q); exact ⟨σ',H',I'.ofTry I.ok,q⟩
   | cont => (refine DX.x2_2 q ?_; try clear q; rintro σ' H' I' q); exact ⟨σ',H',I'.ofTry I.ok,q⟩
   | ret u => (refine DX.x3_3 q ?_; try clear q; rintro v σ' H' I' r q); exact ⟨v,σ',H',I'.ofTry I.ok,r,q⟩
 · obtain ⟨σ0,H0,s0,I0,a,C,t,H',B,rfl,os,bare,fl,hok,un,kB,new,_,hm,hq⟩:=q
   have fl':Heap.FlyingW B (X.env :: X.outer) a C (.ref t) s1.heap:=by rw [← hst]; exact fl
   have hfr:X.A.frames = some (X.env :: X.outer):=by rw [← hst]; exact I.ok.frames
   refine wpAny_looks_onW hfr hf fl' fun h4 held4 up4 => ?_
   refine wpAny_landsW held4 fun h5 fl5 up5 => ?_
   have fl5':Heap.FlyingW B X.stack a C (.ref t) h5:=by rw [hst]; exact fl5
   have up45:=up4.trans up5
   have I5:Inv X pins σ0 H' { s1 with heap:=h5,toks:=s1.toks }:=I0.landed os bare fl hok un kB fl5.1 up45
   refine wpAny_handleBy_cons (codeAny_handlers_test (ux_ I5 hg hM ?_ hd)) (by intro z; cases z)
   (refine DX.x1_2 fl5.there ?_; rintro ob hob hobc)
   have LT:PySem.W.Looks (model X.prog X.w) h5 (typeOf (.ref a)) C:=hobc ▸ (PySem.W.Looks.ld hob).andThen .now
   refine (PySem.W.exm_one (M:=model X.prog X.w) (h:=h5) I5.kIn LT hm).here ?_
   show codeAny _ _ (.handlers (.ref a) [.ExceptHandler none (some n) (b₀ :: suite) hpos] X.env) _ _
   refine codeAny_handlers_suite_as ?_
   refine lands_againW fl5 fun h6 fl6 up6 => ?_
   have fl6':Heap.FlyingW B X.stack a C (.ref t) h6:=by rw [hst]; exact fl6
   obtain ⟨I6,na⟩:=I0.landedO (tk:=s1.toks) os bare fl hok un kB new fl6' (up45.trans up6)
   refine yx_ I6 hN hi (.inl hn) (v:=.ref a) rfl (fun s7 I7 => ?_) (.inr hn)
   refine xbj_ (thn (hs a pins s7 _ _ _ I7.toExc (hq a na)) fun f8 s8 q8 => ?_)
   have goes:∀ {σ8:St} {H8:Hp} {Q:Unit→Shared→Prop},Inv (X.inExc a) pins σ8 H8 s8→(∀ s9,Inv X pins (σ8.set i none) H8 s9→Q () s9)→wpAny (model X.prog X.w) X.A (do bindName X.env n .none; unbindBehindTheSuite X.env n hpos) Q X.xe s8:=fun {σ8 H8 Q} I8 k => by
     have J8:=I8.ofExc I.ok
     (refine DX.x1_2 (id J8.loc) ?_; rintro m8 hn8 hl8)
     refine wpAny_nameGoes_keeps hn hn8 (by rw [J8.ok.kind]; rfl) fun h9 v9 hn9 hs9 => k _ (J8.unbound hN hi hl8 hn9 hs9)
   cases f8 with
   | next => (refine DX.x2_2 q8 ?_; try clear q8; rintro σ8 H8 I8 q8); exact goes I8 fun s9 I9 => ⟨_,H8,I9,q8⟩
   | brk => (refine DX.x2_2 q8 ?_; try clear q8; rintro σ8 H8 I8 q8); exact goes I8 fun s9 I9 => ⟨_,H8,I9,q8⟩
   | cont => (refine DX.x2_2 q8 ?_; try clear q8; rintro σ8 H8 I8 q8); exact goes I8 fun s9 I9 => ⟨_,H8,I9,q8⟩
   | ret u => (refine DX.x3_3 q8 ?_; try clear q8; rintro v8 σ8 H8 I8 r8 q8); exact goes I8 fun s9 I9 => ⟨v8,_,H8,I9,r8,q8⟩
end L2
namespace L2
open PySem PySem.Spec PyProof.Rows
section
variable {prog:Program} {w:World} {A:Around} {E:Value→Shared→Prop} {env:Env}
variable {nm q:Str} {C N:Addr} {bs bm:List Value} {hdct:Bool} {sn:List Str} {sub:List Value} {ab:Bool} {col:Option Bool} {dd:Option Addr} {k0 k1 k2 k3 k5:Option Value} {newId:String}
theorem qx_:entryFor table "proto.unchain" = some Builtin.«proto.unchain»:=entryFor_of_tree (by kernel_rfl)
theorem q6_ {α:Type} {s:Shared} {a e:Addr} {oe:Obj} {vs:Array Value} {Q:α→Shared→Prop} (hh:A.handled = some (.ref a)) (ne:a ≠ e) (nc:vx_ s.heap a) (he:s.heap.get? e = some oe) (hd:oe.data = .fields vs) (hsz:2 < vs.size)
   (h:E (.ref e) { s with heap:=s.heap.update e (Obj.mapFields (·.setIfInBounds 2 (.ref a))) }):wpAny (model prog w) A (raiseNew (.ref e):Sem α) Q E s:=by
 obtain ⟨o,ws,ea,da,h2⟩:=nc
 unfold raiseNew
 refine wpAny_bind (wpAny_handled ?_)
 rw [hh]
 dsimp only
 rw [if_pos (show (Value.ref a != Value.ref e) = true from by simp [ne])]
 refine wpAny_bind (wpAny_holding (wpAny_runValue (codeAny_builtin qx_ ?_)))
 unfold Builtin.«proto.unchain»
 dsimp only
 refine wpAny_bind (wpAny_field ea da h2 ?_)
 rw [if_pos (by rfl)]
 refine wpAny_bind (wpAny_pure (wpAny_pure ?_))
 show wpAny _ _ (setField (.ref e) 2 (.ref a) >>= _) _ _ s
 exact wpAny_bind (wpAny_setField he hd hsz (wpAny_throw h))
theorem vt_ {s:Shared} {x c:Sem Value} {a:Addr} {Q:Flow→Shared→Prop} (hbase:bm.contains (.type "BaseException") = true) (hh:A.handled = some (.ref a))
   (h:wpAny (model prog w) A x (fun v s₁ => ∃ e t,v = .ref e ∧ wpAny (model prog w) A c (fun cv s₂ => cv = .none ∧ s₂.heap.get? C = some (excClassObj nm q C N bs bm hdct sn sub ab col dd k0 k1 k2 k3 k5 newId) ∧
     s₂.heap.get? e = some { cls:=.ref C,data:=.fields #[.ref t,.none,.none,.none,.bool false,.none] } ∧ a ≠ e ∧ vx_ s₂.heap a ∧
     ∀ h',(∀ b,b ≠ e→h'.get? b = s₂.heap.get? b)→h'.get? e = some { cls:=.ref C,data:=.fields #[.ref t,.none,.ref a,.none,.bool true,.none] }→E (.ref e) { s₂ with heap:=h' }) E s₁) E s) :
   wpAny (model prog w) A (raiseStmt env (some x) (some c)) Q E s:=by
 have hcB:(Value.ref C :: bm).contains (.type "BaseException") = true:=by rw [List.contains_cons,hbase,Bool.or_true]
 unfold raiseStmt
 refine wpAny_bind (wpAny_mono h (fun v s₁ h₁ => ?_) fun _ _ x => x)
 obtain ⟨e,t,rfl,h₁⟩:=h₁
 refine wpAny_bind (wpAny_holding (wpAny_mono h₁ (fun cv s₂ h₂ => wpAny_bind (wpAny_pure ?_)) fun _ _ x => x))
 obtain ⟨rfl,hC,he,ne,nc,hE⟩:=h₂
 obtain ⟨hp,g,d,tk,os⟩:=s₂
 repeat (first | with_reducible refine wpAny_loadPart_at he ?_ | with_reducible refine wpAny_loadPart_at hC ?_ | (with_reducible refine wpAny_isSubtype_exc hC ?_; rw [hcB]) | wp_step)
 have hCe:C ≠ e:=by rintro rfl; rw [hC] at he; cases he
 have hC2:((hp.update e (Obj.mapFields fun x => x.setIfInBounds 3 Value.none)).update e (Obj.mapFields fun x => x.setIfInBounds 4 (Value.bool true))).get? C = some (excClassObj nm q C N bs bm hdct sn sub ab col dd k0 k1 k2 k3 k5 newId):=by
   rw [Heap.get?_update_other _ _ (Ne.symm hCe),Heap.get?_update_other _ _ (Ne.symm hCe)]
   exact hC
 have he2:((hp.update e (Obj.mapFields fun x => x.setIfInBounds 3 Value.none)).update e (Obj.mapFields fun x => x.setIfInBounds 4 (Value.bool true))).get? e = some { cls:=.ref C,data:=.fields #[.ref t,.none,.none,.none,.bool true,.none] }:=by
   rw [Heap.get?_update_self _ (Heap.get?_update_self _ he rfl) rfl]
   rfl
 have oth:∀ b,b ≠ e→((hp.update e (Obj.mapFields fun x => x.setIfInBounds 3 Value.none)).update e (Obj.mapFields fun x => x.setIfInBounds 4 (Value.bool true))).get? b = hp.get? b:=fun b hb => by
   rw [Heap.get?_update_other _ _ (Ne.symm hb),Heap.get?_update_other _ _ (Ne.symm hb)]
 generalize (hp.update e (Obj.mapFields fun x => x.setIfInBounds 3 Value.none)).update e (Obj.mapFields fun x => x.setIfInBounds 4 (Value.bool true)) = h2 at hC2 he2 oth ⊢
 have nc2:vx_ h2 a:=by
   obtain ⟨o,ws,ea,da,z⟩:=nc
   exact ⟨o,ws,(oth a ne).trans ea,da,z⟩
 repeat (first | with_reducible refine wpAny_loadPart_at he2 ?_ | with_reducible refine wpAny_loadPart_at hC2 ?_ | wp_step)
 refine q6_ hh ne nc2 he2 rfl (by simp) (hE _ (fun b hb => ?_) ?_)
 · rw [Heap.get?_update_other _ _ (Ne.symm hb)]
   exact oth b hb
 · rw [Heap.get?_update_self _ he2 rfl]
   rfl
theorem kad_ {s:Shared} {B initId:String} {bmB:List Value} (F:ExcBaseFacts B newId initId bmB) {mN:Str→Option Value} {x:Str} {np cpos pos kp:Pos} {j} {args:List Expr} {a:Addr} {Q:Flow→Shared→Prop}
   (hbase:bm.contains (.type "BaseException") = true) (hh:A.handled = some (.ref a)) (hplain:(backTo cpos (starEach args env)).any (·.1) = false) (hni:mN "__init__" = none)
   (h:wpAny (model prog w) A (eval (.Name x np) env) (fun f s₁ => f = .ref C ∧ wpAny (model prog w) A (evalArgs (.ref C) true (backTo cpos (starEach args env)) [])
     (fun r s₂ => r.kw = [] ∧ r.pos.length ≤ sizeLine ∧ s₂.heap.get? C = some (excClassObj nm q C N bs bm hdct sn sub ab col dd k0 k1 k2 k3 k5 newId) ∧ s₂.heap.Ns N mN ∧ OwnTail s₂.heap bmB bm ∧ vx_ s₂.heap a ∧
       ∀ e t h',s₂.heap.get? e = none→(∀ b o,s₂.heap.get? b = some o→h'.get? b = some o)→h'.get? e = some { cls:=.ref C,data:=.fields #[.ref t,.none,.ref a,.none,.bool true,.none] }→E (.ref e) { s₂ with heap:=h' }) E s₁) E s) :
   wpAny (model prog w) A (exec (.Raise (some (.Call (.Name x np) args [] cpos)) (some (.Constant .none j kp)) pos) env) Q E s:=by
 rw [arm_exec_Raise]
 refine wpAny_bind (wpAny_standAt ?_)
 refine vt_ (C:=C) (nm:=nm) (q:=q) (N:=N) (bs:=bs) (bm:=bm) (hdct:=hdct) (sn:=sn) (sub:=sub) (ab:=ab) (col:=col) (dd:=dd) (k0:=k0) (k1:=k1) (k2:=k2) (k3:=k3) (k5:=k5) (newId:=newId) hbase hh ?_
 refine wpAny_bind (wpAny_mono (wpAny_Call_ofName (wpAny_mono h (fun f s₁ h₁ => ?_) fun _ _ x => x)) (fun v s₃ h₃ => wpAny_bind (wpAny_standAt (wpAny_pure h₃))) fun _ _ x => x)
 obtain ⟨rfl,h₁⟩:=h₁
 unfold callWith
 refine wpAny_bind (wpAny_holding (wpAny_mono h₁ (fun r s₂ h₂ => wpAny_bind (wpAny_standAt ?_)) fun _ _ x => x))
 obtain ⟨rpos,rkw⟩:=r
 obtain ⟨hkw,hlen,hC,hn,T,nc,h₂⟩:=h₂
 obtain rfl:rkw = []:=hkw
 obtain ⟨hp,g,d,tk,os⟩:=s₂
 simp only [hplain]
 refine wpAny_bind (wpAny_keeperOf_exc hC ?_)
 refine wpAny_bind (wpAny_call_exc_subT (hrest:=hlen) F T hC hn hni fun h' e hm => wpAny_bind (wpAny_holding (wpAny_point (wpAny_pure ?_))))
 obtain ⟨t,ht,_,_⟩:=hm.there
 obtain ⟨o,ws,ea,da,z⟩:=nc
 have ne:a ≠ e:=fun y => by
   have q:=hm.new
   rw [← y] at q
   rw [show hp.get? a = some o from ea] at q
   cases q
 exact ⟨e,t,rfl,wpAny_bind (Constant_none (wpAny_bind (wpAny_standAt (wpAny_pure ⟨rfl,hm.keeps _ _ hC,ht,ne,⟨o,ws,hm.keeps _ _ ea,da,z⟩,fun h'' k1 k2 => h₂ e t h'' hm.new (fun b ob hb => (k1 b (fun y => by
   have q:=hm.new
   rw [← y] at q
   rw [show hp.get? b = some ob from hb] at q
   cases q)).trans (hm.keeps b ob hb)) k2⟩))))⟩
end
noncomputable def yaw_ (K:PySem.W.Frag) (CM C:Addr) (E:XK):St→XK:=fun _ C' _ H' => PySem.W.exmOne K C' (.ref CM) = some true ∧ E (.ref C) none H'
noncomputable def tTrx (K:PySem.W.Frag) (CM C:Addr) (E:XK) (tb:(St→XK)→TS):TS:=fun D σ H => tb (yaw_ K CM C E) D σ H
theorem qba_ {X:Cx} {M x:Str} {CM C:Addr} {body:List Stmt} {np rp cpos kp rpos hpos pos zp:Pos} {j jz} {zs:Str} {tb:(St→XK)→TS} {E:XK} (hg:Gl X M) (hM:X.mg M = some (.ref CM)) (hC:ExcCls X.K X.mg x C) (hgx:Gl X x)
   (hr:vr_ X E false) (hp:∀ hd,PassesOwnAt (model X.prog X.w) (X.A.mark (some hd)) X.A X.env X.xe) (hb:∀ pins Ex,X.Ok→PSs (X.tryX pins Ex true) body (tb Ex)) (hd:autoParam ((M == ("__debug__":Str)) = false) au2._auto_1) (hdx:autoParam ((x == ("__debug__":Str)) = false) au2._auto_1)
   (hf:autoParam (X.env.frame = some X.env.locals) au1._auto_1) (hst:autoParam (X.stack = X.env :: X.outer) au1._auto_1) :
   PS X (.Try body [.ExceptHandler (some (.Name M np)) none [.Raise (some (.Call (.Name x rp) [.Constant (.str zs) jz zp] [] cpos)) (some (.Constant .none j kp)) rpos] hpos] [] [] pos) (tTrx X.K CM C E tb):=by
 intro pins s σ H D I h
 refine wpAny_Try_except (wpAny_mono (hb pins _ I.ok [] s σ H D (I.toTry _) h) (fun fl s1 q => ?_) fun e s1 q => ?_)
 · cases fl with
   | next =>
     obtain ⟨σ',H',I',q⟩:=q
     exact wpAny_execs_nil ⟨σ',H',I'.ofTry I.ok,q⟩
   | brk => obtain ⟨σ',H',I',q⟩:=q; exact ⟨σ',H',I'.ofTry I.ok,q⟩
   | cont => obtain ⟨σ',H',I',q⟩:=q; exact ⟨σ',H',I'.ofTry I.ok,q⟩
   | ret u => obtain ⟨v,σ',H',I',r,q⟩:=q; exact ⟨v,σ',H',I'.ofTry I.ok,r,q⟩
 · obtain ⟨σ0,H0,s0,I0,a,C',t,H',B,rfl,os,bare,fl,hok,un,kB,new,nc,hm,hq⟩:=q
   have fl':Heap.FlyingW B (X.env :: X.outer) a C' (.ref t) s1.heap:=by rw [← hst]; exact fl
   have hfr:X.A.frames = some (X.env :: X.outer):=by rw [← hst]; exact I.ok.frames
   obtain ⟨c2,tr⟩:=Trc.at fl'.2.2.2
   have hc2:=tr.nc.mp (nc rfl)
   refine v6_ hfr hf fl'.1 fl'.2.1 fl'.2.2.1 tr fun h4 k1 k2 k3 up4 => ?_
   refine qj_ (fr:=none) k1 k2 k3 fun h5 j1 j2 j3 up5 => ?_
   have up45:=up4.trans up5
   have I5:Inv X pins σ0 H' { s1 with heap:=h5,toks:=s1.toks }:=I0.landed os bare fl hok un kB j1 up45
   refine wpAny_handleBy_cons (codeAny_handlers_test (ux_ I5 hg hM ?_ hd)) (by intro z; cases z)
   obtain ⟨ob,hob,hobc⟩:=j3.atW.there
   have LT:PySem.W.Looks (model X.prog X.w) h5 (typeOf (.ref a)) C':=hobc ▸ (PySem.W.Looks.ld hob).andThen .now
   refine (PySem.W.exm_one (M:=model X.prog X.w) (h:=h5) I5.kIn LT hm).here ?_
   show codeAny _ _ (.handlers (.ref a) [.ExceptHandler none none _ hpos] X.env) _ _
   refine codeAny_handlers_suite (qj_ (fr:=none) j1 j2 j3 fun h6 i1 i2 i3 up6 => ?_)
   have I6:Inv X pins σ0 H' { s1 with heap:=h6,toks:=s1.toks }:=I0.landed os bare fl hok un kB i1 (up45.trans up6)
   have nc6:vx_ h6 a:=i3.nc.mpr hc2
   obtain ⟨tl,N,nm,q,bs,hdct,sn,sub,ab,col,dd,k0,k1',k2',k3',k5,mN,hCo,hN,hni,T⟩:=jai_ (h:=X.base) I.ok.mod.kin hC.exc
   refine wpAny_execs_cons (kad_ (C:=C) (nm:=nm) (q:=q) (N:=N) (bs:=bs) (bm:=tl) (hdct:=hdct) (sn:=sn) (sub:=sub) (ab:=ab) (col:=col) (dd:=dd) (k0:=k0) (k1:=k1') (k2:=k2') (k3:=k3') (k5:=k5)
     PySem.F.excBase_ValueError (mN:=mN) (T.hasType PySem.F.excBase_ValueError.hasBase) rfl rfl hni (ux_ I6 hgx hC.bound ⟨rfl,?_⟩ hdx))
   refine Calls.evalArgs_plain (Calls.spliced_cons (@Calls.Constant_str _ _ _ _ _ _ jz zp _ ?_))
   refine Calls.spliced_nil ⟨rfl,(by show 1 ≤ sizeLine; decide),I6.bk _ _ hCo,hN.keeps I6.bk,T.keeps I6.bk,nc6,fun e t' h' nw keeps he => hp _ _ _ ?_⟩
   exact hr pins σ0 H' _ e C t' _ _ h' (I6.tok _) keeps nw he rfl rfl rfl rfl (fun z => nomatch z) hq
end L2
namespace L2
open PySem PySem.Spec PyProof.Rows
theorem k1_ {B B' h h':Heap}:∀ {l:List Env},h.FunFrames B l→(∀ b,B.get? b = none→B'.get? b = none)→(∀ b ∈ frs l,h'.get? b = h.get? b)→h'.FunFrames B' l
 | [],_,_,_ => trivial
 | env :: r,⟨hk,⟨L,o,hf,hn,ho,hd⟩,hr⟩,k1,k2 => by
   have hL:L ∈ frs (env :: r):=List.mem_filterMap.mpr ⟨env,by simp,hf⟩
   refine ⟨hk,⟨L,o,hf,k1 L hn,(k2 L hL).trans ho,hd⟩,k1_ hr k1 fun b hb => k2 b ?_⟩
   obtain ⟨e',h1,h2⟩:=List.mem_filterMap.mp hb
   exact List.mem_filterMap.mpr ⟨e',by simp [h1],h2⟩
noncomputable def wbj_ (P:Program) (w:World) (outer:List Env) (ch:List Addr) (H:Hp) (s:Shared) (E:XK) (e:Value) (s':Shared):Prop:=∃ (a:Addr) (C:Value) (t:Addr) (H':Hp) (B:Heap) (c2:Option Value) (fl:Value),e = .ref a ∧ s'.os = s.os ∧ AllBare s'.gens ∧
 B.StaysIn s'.heap ∧ B.get? a = none ∧ s'.heap.FunFrames B outer ∧ Trc s'.heap B a C (.ref t) c2 fl ∧ HOk P w H' B ∧ Un (frs outer) ch H H' s.heap s'.heap ∧
 (∀ b o,s.heap.get? b = some o→b ∉ frs outer→b ∉ ch→∃ o',B.get? b = some o' ∧ (H b = none→o' = o)) ∧ s.heap.get? a = none ∧ E C none H'
noncomputable def z7_ (X:Cx) (E:XK):Prop:=∀ (pins:List (Addr × Obj)) (σ:St) (H:Hp) (s:Shared) (ch:List Addr) (e:Value) (s':Shared),Inv X pins σ H s→(∀ b ∈ ch,FpOk X pins H b)→wbj_ X.prog X.w X.stack ch H s E e s'→X.xe e s'
section
variable {P:Program} {w:World} {K:PySem.W.Frag} {mg:Str→Option Value} {base:Heap} {N:List Str} {qual:Str} {scope:Scope} {f:Addr} {cd:Value} {A:Around} {outer:List Env} {s₀:Shared} {H₀:Hp} {E:XK}
theorem y7_:z7_ (cxOf (CXm P w false) P w K mg base N qual scope f cd A outer s₀ H₀ E) E:=by
 intro pins σ H s ch e s' I hch h
 obtain ⟨a,C,t,H',B,c2,fl,rfl,os,bare,f1,f2,f3,tr,hok,un,kB,new,q⟩:=h
 have I':Inv (cxOf (CXm P w false) P w K mg base N qual scope f cd A outer s₀ H₀ E) pins σ H' s':=I.call' (ch:=ch) os un (hok.kept f1) bare fun b hb => by
   obtain ⟨_,g1,g2,g3,g4,g5⟩:=hch b hb
   exact ⟨g3,g1,g4,g5⟩
 have ho:∀ b ∈ frs outer,b ∈ frs (cxOf (CXm P w false) P w K mg base N qual scope f cd A outer s₀ H₀ E).stack:=fun b hb => by
   show b ∈ frs (envOfC qual scope s₀.heap.objs.size f cd :: outer)
   unfold frs at hb ⊢
   rw [List.filterMap_cons]
   exact List.mem_cons_of_mem _ hb
 have nst:∀ b,b < s₀.heap.objs.size→b ∉ frs outer→b ∉ frs (cxOf (CXm P w false) P w K mg base N qual scope f cd A outer s₀ H₀ E).stack:=fun b hb hn z => by
   rcases List.mem_cons.mp (I.stkSub b z) with q | q
   · exact absurd (Nat.lt_of_lt_of_le hb I.ok.above) (by rw [q]; exact Nat.lt_irrefl _)
   · exact hn q
 have nch:∀ b,b < s₀.heap.objs.size→b ∉ ch:=fun b hb z => by
   obtain ⟨_,_,_,g3,_⟩:=hch b z
   rcases g3 with g | g
   · exact absurd g (by simp [cxOf])
   · exact absurd (Nat.lt_of_lt_of_le hb g) (Nat.lt_irrefl _)
 show wpAny (model P w) (A.deeper (envOfC qual scope s₀.heap.objs.size f cd)) (leaving (envOfC qual scope s₀.heap.objs.size f cd) (.ref a)) _ _ _
 refine u9_ I.ok.frames rfl f1 f2 f3 tr fun h2 fl2 up nc => ?_
 have kB2:∀ b o,s₀.heap.get? b = some o→b ∉ frs outer→∃ o',B.get? b = some o' ∧ (H₀ b = none→o' = o):=fun b o e hb => by
   obtain ⟨o1,e1⟩:=I.base.there b o e (by simp [cxOf])
   obtain ⟨o',e',q'⟩:=kB b o1 e1 (nst b (Heap.lt_size e) hb) (nch b (Heap.lt_size e))
   refine ⟨o',e',fun n => ?_⟩
   have k1:=I.base.keep b o e n hb (by simp [cxOf])
   rw [e1] at k1
   cases k1
   exact q' (I.base.free b o e n (by simp [cxOf]))
 refine ⟨a,C,t,H',B,rfl,I'.os,I'.bare,fl2,hok,?_,kB2,?_,fun z => (nomatch z),q⟩
 · have u1:Un (frs outer) [] H₀ H' s₀.heap s'.heap:=I'.base
   exact u1.flight up fl2.1 (fun b hb o e' => zf_ I'.stack b (ho b hb) o e') (fun b hb => I.ok.frf b hb) kB2
 · cases z:s₀.heap.get? a with
   | none => rfl
   | some o =>
     obtain ⟨o',e'⟩:=I.base.there a o z (by simp [cxOf])
     rw [new] at e'
     cases e'
end
noncomputable abbrev Cx.blockX (X:Cx) (E:XK) (N':List Str) (scope:Scope) (ns:List Str) (C:Addr) (s:Shared) (H:Hp) (fp:List Addr):Cx :=
 { X.blockN N' scope ns C s H fp with xe:=fun e s' => ∃ pins' σ' H' s1,Inv (X.blockN N' scope ns C s H fp) pins' σ' H' s1 ∧ CXm X.prog X.w false X.stack H' s1 E e s' }
section
variable {X:Cx} {E:XK} {N':List Str} {scope:Scope} {ns:List Str} {C:Addr} {s₂:Shared} {H₂:Hp} {fp:List Addr} {pins:List (Addr × Obj)} {σ:St} {H:Hp} {s:Shared}
theorem Inv.ofX (I:Inv (X.blockX E N' scope ns C s₂ H₂ fp) pins σ H s):Inv (X.blockN N' scope ns C s₂ H₂ fp) pins σ H s :=
 ⟨⟨I.ok.mod,I.ok.kind,I.ok.glob,I.ok.blt,I.ok.above,I.ok.inj,I.ok.has,I.ok.cab,I.ok.hd,I.ok.frames,I.ok.stk,I.ok.exf,I.ok.bs,I.ok.bsz,I.ok.noex,I.ok.exfs,I.ok.funs,I.ok.frf⟩,I.os,I.bare,I.base,I.loc,I.cell,I.free,I.freeC,I.pin,I.hok,I.len⟩
theorem v1_ {fl:Bool}:zm_ (CXm X.prog X.w fl) (X.blockX E N' scope ns C s₂ H₂ fp) (fun _ => E):=fun pins σ H s e s' I h => ⟨pins,σ,H,s,I.ofX,h.weak⟩
end
theorem u1_ {prog:Program} {w:World} {A:Around} {R:Result→Shared→Prop} {Z:Value→Shared→Prop} {s:Shared} {elt target iter:Expr} {ifs:List Expr} {scope:Scope} {pos:Pos} {it acc:Value} {env:Env} (I:Nat→Shared→Prop)
   (hZ:∀ x s',Z x s'→notedBy (model prog w) A env (fun x s' => R (.error x) s') x s')
   (turn:∀ n s,I n s→wpAny (model prog w) A (pyNext it) (fun r s₁ => match r with
     | none => R (.ok .next) s₁
     | some v => wpAny (model prog w) A (letOwnedTupleGo target it v) (fun _ s₁' => wpAny (model prog w) A (assign target env v) (fun _ s₂ =>
         wpAny (model prog w) A (ka0_ ifs env) (fun ok s₃ =>
           if ok = true then wpAny (model prog w) A (eval elt env) (fun x s₄ =>
             wpAny (model prog w) A (call (.builtin "list.append") [acc,x]) (fun _ s₅ => ∃ m,m < n ∧ I m s₅) Z s₄) Z s₃
           else ∃ m,m < n ∧ I m s₃) Z s₂) Z s₁') Z s₁) Z s)
   (n:Nat) (h:I n s):codeAny (model prog w) A (.compLoop (.ListComp elt [⟨target,iter,ifs,0⟩] scope pos) 0 it acc env) R s:=by
 refine codeAny_loop rfl I (fun n s hI => ?_) n h
 show wpAny _ A ((compTurn (.ListComp elt [⟨target,iter,ifs,0⟩] scope pos) 0 it acc env).onRaise (fun x => do noteFrame x env; theTreesLotGoes x)) _ _ s
 refine wpAny_noted ?_
 rw [compTurn_list]
 refine wpAny_bind (wpAny_standAt (wpAny_bind (wpAny_mono (turn n s hI) (fun r s₁ h₁ => ?_) hZ)))
 cases r with
 | none => exact wpAny_pure h₁
 | some v =>
   refine wpAny_bind (wpAny_mono h₁ (fun _ s₁' h₁' => ?_) hZ)
   refine wpAny_bind (wpAny_mono h₁' (fun _ s₂ h₂ => wpAny_bind (wpAny_mono h₂ (fun ok s₃ h₃ => ?_) hZ)) hZ)
   cases ok with
   | false => exact wpAny_pure ⟨rfl,h₃⟩
   | true =>
     exact wpAny_bind (wpAny_bind (wpAny_mono h₃ (fun x s₄ h₄ => wpAny_bind (wpAny_mono h₄ (fun _ s₅ h₅ => wpAny_pure (wpAny_pure ⟨rfl,h₅⟩)) hZ)) hZ))
section
variable {X:Cx} {scope:Scope} {ns:List Str} {tg iter elt:Expr} {ifs:List Expr} {pos:Pos} {wi:TI} {g:TG} {tc:TT} {te:TE} {pins:List (Addr × Obj)} {σ:St} {H2:Hp} {s2:Shared} {J:It} {fp:List Addr} {it:Addr} {tn:Nat→Heap→Prop}
theorem vad_ {N':List Str} {Q:VK} {EX:XK} {E:Value→Shared→Prop} {RR:Value→Addr→Result→Shared→Prop} (hc:X.calm = true) (B:BlockOk X N' scope)
   (hg:∀ C s H fp,PG (X.blockX EX N' scope ns C s H fp) tg g) (ht:∀ C s H fp,PTs (X.blockX EX N' scope ns C s H fp) ifs tc) (he:∀ C s H fp,PE (X.blockX EX N' scope ns C s H fp) elt te)
   (I2:Inv X pins σ H2 s2) (T:Turn X.prog X.w X.K tg J fp it tn) (st:tn 0 s2.heap) (hf:∀ b ∈ fp,FpOk X pins H2 b) (h:∀ D,H2 D = none→wai_ J g tc te D Q (σ ++ List.replicate ns.length none) H2)
   (bad:∀ D C p1 σ1 H1 s1 e s',Inv (X.blockN N' scope ns C s2 H2 fp) p1 σ1 H1 s1→s2.heap.objs.size ≤ C→CXm X.prog X.w false X.stack H1 s1 EX e s'→notedBy (model X.prog X.w) X.A (compEnvC scope (qd_ X.env scope.names []) C X.env) (fun x s'' => RR (.ref D) C (.error x) s'') e s')
   (fin:∀ D C s' H',Inv X pins σ H' s'→(∃ m,s'.heap.Ns C m)→FpOk X pins H' C→Q (.ref D) H'→RR (.ref D) C (.ok .next) s') :
   wpAny (model X.prog X.w) X.A (newList []) (fun acc s₃ => wpAny (model X.prog X.w) X.A (newFunctionEnv scope X.env.globals (qd_ X.env scope.names []) [] X.env.qual none .none (some X.env)) (fun cenv s₄ =>
     codeAny (model X.prog X.w) X.A (.compStart (.ListComp elt [⟨tg,iter,ifs,0⟩] scope pos) 0 (.ref it) acc { cenv with scope:=relabel scope X.env }) (RR acc cenv.locals) s₄) E s₃) E s2:=by
 refine wpAny_newObj_type (wpAny_newFunctionEnv B.cell (by intro y hy; simp at hy) (fun h₁ hns₁ hsb₁ => ?_) B.kind)
 dsimp only at hns₁ hsb₁ ⊢
 generalize hH2:s2.heap.push { cls:=.type "list",dict:=none,data:=.seq ([]:List Value).toArray } = G at hns₁ hsb₁ ⊢
 have hC:G.objs.size = s2.heap.objs.size + 1:=by rw [← hH2,Heap.size_push]
 have hDC:s2.heap.objs.size ≠ G.objs.size:=by rw [hC]; exact Nat.ne_of_lt (Nat.lt_succ_self _)
 have hCle:s2.heap.objs.size ≤ G.objs.size:=by rw [hC]; exact Nat.le_succ _
 have old:∀ b o,s2.heap.get? b = some o→h₁.get? b = some o:=fun b o e => hsb₁.extBut b o (Nat.ne_of_lt (Nat.lt_of_lt_of_le (Heap.lt_size e) hCle)) (Heap.get?_push_of_some _ (hH2 ▸ Heap.get?_push_of_some _ e))
 have hacc:h₁.get? s2.heap.objs.size = some { cls:=.type "list",data:=.seq ([]:List Value).toArray }:=hsb₁.extBut _ _ hDC (Heap.get?_push_of_some _ (hH2 ▸ Heap.get?_push_size _ rfl))
 have hfresh:H2 s2.heap.objs.size = none:=I2.fresh
 have hfb:∀ b ∈ fp,FpOk X pins H2 b ∧ b < s2.heap.objs.size:=fun b hb => ⟨hf b hb,by (refine DX.x1_2 (T.obj _ _ st b hb) ?_; rintro o e _); exact Heap.lt_size e⟩
 have ok0:(X.blockN N' scope ns G.objs.size s2 H2 fp).Ok:=k9_ I2 B hCle hfb
 have ok:(X.blockX EX N' scope ns G.objs.size s2 H2 fp).Ok:=⟨ok0.mod,ok0.kind,ok0.glob,ok0.blt,ok0.above,ok0.inj,ok0.has,ok0.cab,ok0.hd,ok0.frames,ok0.stk,ok0.exf,ok0.bs,ok0.bsz,ok0.noex,ok0.exfs,ok0.funs,ok0.frf⟩
 (refine DX.x1_2 (h s2.heap.objs.size hfresh) ?_; rintro W ⟨m0,w0⟩ turn)
 have I0:Inv (X.blockX EX N' scope ns G.objs.size s2 H2 fp) [] (σ ++ List.replicate ns.length none) (upd H2 s2.heap.objs.size (.lst [])) { s2 with heap:=h₁,toks:=s2.toks + ([]:List (Str × Value)).length }:=by
   refine ⟨ok,rfl,I2.bare,Un.laid old (Nat.le_refl _) hfresh,⟨_,hns₁,fun i x v e1 e2 e3 => ?_⟩,fun x c e => ?_,?_,fun x c e => ?_,fun p hp => absurd (show p ∈ ([]:List (Addr × Obj)) from hp) (by simp),I2.hok.laid old (Nat.le_refl _) ⟨Nat.zero_le _,[],0,.nil,hacc⟩,?_⟩
   · -- a name of the def,seen through its cell
     have hi:i < σ.length:=by
       rcases Nat.lt_or_ge i σ.length with z | z
       · exact z
       · rw [List.getElem?_append_right z,List.getElem?_replicate] at e2
         split at e2 <;> cases e2
     rw [List.getElem?_append_left hi] at e2
     have e1:(N' ++ ns)[i]? = some x:=e1
     rw [List.getElem?_append_left (by rw [B.len,← I2.len]; exact hi)] at e1
     (refine DX.x0_3 (B.vis i x e1 e3) ?_; rintro e1 k1 k2)
     (refine DX.x1_2 I2.loc ?_; rintro m _ hl)
     have hv:Vis X.env.scope x:=by
       rcases k2 with z | z
       · exact .inr (.inl z)
       · exact .inr (.inr z)
     (refine DX.x1_2 (hl i x v e1 e2 hv) ?_; rintro u r l)
     refine ⟨u,r,.inr ⟨k1,?_⟩⟩
     rcases l with ⟨q,_⟩ | ⟨_,c,hc1,hc2⟩
     · rcases k2 with z | z
       · rw [z] at q; cases q
       · rw [z] at q; cases q
     · obtain ⟨c',hc'⟩:=B.has x k1
       have:=B.sub x c' hc'
       rw [hc1] at this
       cases this
       (refine DX.x1_2 hc2 ?_; try clear hc2; rintro o ho hd)
       exact ⟨c,hc',o,old c o ho,hd⟩
   · (refine DX.x2_2 (I2.cell x c (B.sub x c e)) ?_; rintro v o ho hd)
     exact ⟨v,o,old c o ho,hd⟩
   · show upd H2 s2.heap.objs.size (.lst []) G.objs.size = none
     rw [zb_ (Ne.symm hDC)]
     exact I2.hok.fresh hCle
   · have hc0:=I2.freeC x c (B.sub x c e)
     (refine DX.x2_2 (I2.cell x c (B.sub x c e)) ?_; rintro v o ho hd)
     rw [zb_ (Nat.ne_of_lt (Heap.lt_size ho))]
     exact hc0
   · show (σ ++ List.replicate ns.length none).length = (N' ++ ns).length
     rw [List.length_append,List.length_append,List.length_replicate,I2.len,B.len]
 have stat:∀ {H':Hp},(∀ b ∈ fp,H' b = none)→∀ b ∈ fp,FpOk (X.blockX EX N' scope ns G.objs.size s2 H2 fp) [] H' b:=fun hn b hb => by
   (refine DX.x0_6 (hf b hb) ?_; rintro _ f1 f2 f3 f4 f5)
   refine ⟨hn b hb,Nat.ne_of_lt (Nat.lt_of_lt_of_le (hfb b hb).2 hCle),fun z => ?_,.inl hb,fun x c e => f4 x c (B.sub x c e),fun p hp => absurd (show p ∈ ([]:List (Addr × Obj)) from hp) (by simp)⟩
   rcases List.mem_cons.mp (I2.stkSub b z) with z | z
   · exact f1 z
   · exact f2 z
 have fr0:∀ b ∈ fp,upd H2 s2.heap.objs.size (.lst []) b = none:=fun b hb => by
   rw [zb_ (Nat.ne_of_lt (hfb b hb).2)]
   exact (hf b hb).1
 have loop:∀ s₃:Shared,s₃ = { s2 with heap:=h₁,toks:=s2.toks + ([]:List (Str × Value)).length } →
     codeAny (model X.prog X.w) X.A (.compLoop (.ListComp elt [⟨tg,iter,ifs,0⟩] scope pos) 0 (.ref it) (.ref s2.heap.objs.size) (compEnvC scope (qd_ X.env scope.names []) G.objs.size X.env)) (RR (.ref s2.heap.objs.size) G.objs.size) s₃:=by
   rintro s₃ rfl
   refine u1_ (Z:=(X.blockX EX N' scope ns G.objs.size s2 H2 fp).xe) (fun n s' => ∃ i vals σ1 H',Inv (X.blockX EX N' scope ns G.objs.size s2 H2 fp) [] σ1 H' s' ∧ tn i s'.heap ∧ (∀ b ∈ fp,H' b = none) ∧ W i n vals σ1 H') (fun x s' ⟨p1,σ1,H1,s1,J,q⟩ => bad _ _ p1 σ1 H1 s1 x s' J hCle q) ?_ m0 ⟨0,[],_,_,I0,T.keep _ _ _ st fun b _ o e => old b o e,fr0,w0⟩
   rintro n s3 ⟨i,vals,σ1,H3,I3,st3,fr3,w3⟩
   obtain ⟨hD,cs⟩:=turn i n vals σ1 H3 w3
   rcases cs with ⟨stop,q⟩ | ⟨go,hsz,step⟩
   · refine thn (T.done (X.blockX EX N' scope ns G.objs.size s2 H2 fp) rfl rfl rfl hc i [] s3 σ1 H3 (X.blockX EX N' scope ns G.objs.size s2 H2 fp).xe I3 (stat fr3) st3 stop) fun r s4 ⟨hr,I4⟩ => ?_
     subst hr
     have I':Inv X pins σ H3 s4:=I2.call' (ch:=fp) I4.os I4.base I4.hok I4.bare fun b hb => by
       (refine DX.x0_6 (hf b hb) ?_; rintro _ f1 f2 f3 f4 f5)
       exact ⟨f3,f1,f4,f5⟩
     (refine DX.x1_2 I4.loc ?_; rintro m4 hn4 _)
     exact fin _ _ s4 H3 I' ⟨m4,hn4⟩ (I2.fpOk hCle I4.free) q
   · refine thn (T.item (X.blockX EX N' scope ns G.objs.size s2 H2 fp) rfl rfl rfl hc i [] s3 σ1 H3 (X.blockX EX N' scope ns G.objs.size s2 H2 fp).xe I3 (stat fr3) st3 go) fun r s4 ⟨u,hr,h4⟩ => ?_
     subst hr
     refine thn h4 fun _ s5 ⟨x,H5,I5,r5,y5,st5,fr5⟩ => ?_
     have I5':=I5.pinned (stat fr5) (T.obj _ _ st5)
     refine thn (hg G.objs.size s2 H2 fp _ s5 σ1 H5 x u _ I5' r5 (step x H5 y5)) fun _ s6 ⟨σ6,H6,I6,q6⟩ => ?_
     refine thn (ht G.objs.size s2 H2 fp _ s6 σ6 H6 _ I6 q6) fun b s7 ⟨H7,I7,q7⟩ => ?_
     have again:∀ {s':Shared} {σ':St} {H':Hp} {vs':List V},Inv (X.blockX EX N' scope ns G.objs.size s2 H2 fp) ([] ++ wu_ fp s5.heap) σ' H' s'→(∃ m',m' < n ∧ W (i + 1) m' vs' σ' H') →
         ∃ m,m < n ∧ ∃ i vals σ1 H',Inv (X.blockX EX N' scope ns G.objs.size s2 H2 fp) [] σ1 H' s' ∧ tn i s'.heap ∧ (∀ b ∈ fp,H' b = none) ∧ W i m vals σ1 H':=fun {s' σ' H' vs'} I' ⟨m',hm,w'⟩ => by
       refine ⟨m',hm,i + 1,vs',σ',H',I'.unpinned,T.keep _ _ _ st5 fun b hb o e => (I'.pin (b,o) (List.mem_append_right _ (List.mem_append_right _ (xg_ hb e)))).1,fun b hb => ?_,w'⟩
       (refine DX.x1_2 (T.obj _ _ st5 b hb) ?_; rintro o e d)
       exact (I'.pin (b,o) (List.mem_append_right _ (List.mem_append_right _ (xg_ hb e)))).2.1
     cases b with
     | false =>
       rw [if_neg Bool.false_ne_true] at q7
       rw [if_neg Bool.false_ne_true]
       exact again I7 q7
     | true =>
       rw [if_pos rfl] at q7
       rw [if_pos rfl]
       refine thn (he G.objs.size s2 H2 fp _ s7 σ6 H7 _ I7 q7) fun u8 s8 ⟨v8,H8,I8,r8,hD8,w8⟩ => ?_
       refine thn (wr_ (X:=X.blockX EX N' scope ns G.objs.size s2 H2 fp) _ s8 σ6 H8 (.ref s2.heap.objs.size) [v8] (.ref s2.heap.objs.size) [u8] _ I8 rfl (.cons r8 .nil) ⟨_,vals,v8,rfl,rfl,hD8,hsz,w8⟩) fun _ s9 ⟨_,H9,I9,_,q9⟩ => again I9 q9
 exact codeAny_compStart_list (loop _ rfl) (T.self X.A 0 _ _ _ (T.keep _ _ _ st fun b _ o e => old b o e) (loop _ rfl))
theorem uaq_ {N':List Str} {EX:XK} (hc:X.calm = true) (hF:z7_ X EX) (chk:ki_ X.env.scope scope X.N N' = true) (hi:PI X tg iter wi)
   (hg:∀ C s H fp,PG (X.blockX EX N' scope ns C s H fp) tg g) (ht:∀ C s H fp,PTs (X.blockX EX N' scope ns C s H fp) ifs tc) (he:∀ C s H fp,PE (X.blockX EX N' scope ns C s H fp) elt te)
   (hs:autoParam (∀ x,foldedSetIterable iter X.env x = pure x) au3._auto_1) (hfm:autoParam (X.env.frame = some X.env.locals) au1._auto_1) (hst:autoParam (X.stack = X.env :: X.outer) au1._auto_1):PE X (.ListComp elt [⟨tg,iter,ifs,0⟩] scope pos) (j6_ wi g tc te ns.length):=by
 intro pins s σ H Q I h
 have B:=w6_ I.ok chk
 rw [eval_ListComp]
 refine wpAny_comprehension_free (use:=none) rfl hs B.clos B.kind B.names (thn (hi pins s σ H _ I h) fun v s1 h1 => thn h1 fun itv s2 h2 => ?_)
 obtain ⟨it,fp,tn,J,H2,e,I2,T,st2,f2,hW⟩:=h2
 subst e
 refine vad_ (Q:=Q) (EX:=EX) (RR:=fun acc C => compPost (model X.prog X.w) X.A X.xe none (EP X pins σ Q) acc C) hc B hg ht he I2 T st2 f2 hW (fun D C p1 σ1 H1 s1 e s' J hC q => ?_) fun D C s' H' I' hn fc q => ?_
 · obtain ⟨a,C',t,H',B,rfl,os,bare,fl,hok,un,kB,new,_,qE⟩:=q
   show wpAny (model X.prog X.w) X.A (noteFrame (.ref a) X.env) _ _ s'
   have fl':Heap.FlyingW B (X.env :: X.outer) a C' (.ref t) s'.heap:=by rw [← hst]; exact fl
   have hfr:X.A.frames = some (X.env :: X.outer):=by rw [← hst]; exact I2.ok.frames
   obtain ⟨c2,tr⟩:=Trc.at fl'.2.2.2
   refine v6_ hfr hfm fl'.1 fl'.2.1 fl'.2.2.1 tr fun h4 k1 k2 k3 up4 => ?_
   have fC:FpOk X pins H1 C:=I2.fpOk hC J.free
   have nC:C ∉ frs X.stack:=fun z => by
     rcases List.mem_cons.mp (I2.stkSub C z) with y | y
     · exact fC.2.1 y
     · exact fC.2.2.1 y
   obtain ⟨m,hn,_⟩:=J.loc
   obtain ⟨o,es,ep,ho,hd,r⟩:=hn
   have hs':s'.heap.get? C = some o:=un.keep C o ho J.free nC (by simp)
   obtain ⟨sl,hs4⟩:=up4 C o hs' fun vs z => by rw [hd] at z; cases z
   refine ⟨m,⟨_,es,ep,hs4,hd,r⟩,fun h' sb cenv _ => ?_⟩
   have sbo:∀ b,b ≠ C→h'.get? b = h4.get? b:=fun b hb => sb.2 b hb
   have noC:∀ b ob vs,h4.get? b = some ob→ob.data = .fields vs→b ≠ C:=fun b ob vs hb hv z => by
     rw [z,hs4] at hb
     cases hb
     rw [show o.data = .fields vs from hv] at hd
     cases hd
   have st':(PySem.W.hideAll B [C]).StaysIn h':=fun b ob hb => by
     have hbC:b ≠ C:=fun z => by rw [z,PySem.W.hideAll_none _ (by simp)] at hb; cases hb
     exact (sbo b hbC).trans (k1 b ob (PySem.W.of_hideAll _ hb))
   have none':∀ b,B.get? b = none→(PySem.W.hideAll B [C]).get? b = none:=fun b hb => by
     cases z:(PySem.W.hideAll B [C]).get? b with
     | none => rfl
     | some ob => have:=PySem.W.of_hideAll _ z; rw [hb] at this; cases this
   have ff':h'.FunFrames (PySem.W.hideAll B [C]) (X.env :: X.outer):=k1_ k2 none' fun b hb => sbo b fun z => nC (by rw [hst,← z]; exact hb)
   obtain ⟨oe,vs,T',oT,ts,he1,hc1,hd1,h0,h2',h1',hnT,hTe,hT,hdT,h3⟩:=k3
   have tr':Trc h' (PySem.W.hideAll B [C]) a C' (.ref t) c2 (rawInt X.env.locals):=⟨oe,vs,T',oT,ts,(sbo a (noC a oe vs he1 hd1)).trans he1,hc1,hd1,h0,h2',h1',none' _ hnT,hTe,(sbo T' (noC T' oT ts hT hdT)).trans hT,hdT,h3⟩
   unfold PySem.passOn
   refine wpAny_bind (wpAny_field ((sbo a (noC a oe vs he1 hd1)).trans he1) hd1 h1' ?_)
   rw [if_neg (by simp)]
   refine wpAny_bind (qj_ (fr:=cenv.frame) st' ff' tr' fun h5 j1 j2 j3 up5 => wpAny_throw ?_)
   have J1:Inv X pins σ H1 s1:=I2.call' (ch:=fp) J.os J.base J.hok J.bare fun b hb => by
     obtain ⟨_,g1,g2,g3,g4,g5⟩:=f2 b hb
     exact ⟨g3,g1,g4,g5⟩
   have kB':∀ b ob,s1.heap.get? b = some ob→b ∉ frs X.stack→b ∉ [C]→∃ o',(PySem.W.hideAll B [C]).get? b = some o' ∧ (H1 b = none→o' = ob):=fun b ob hb n1 n2 => by
     obtain ⟨o',y1,y2⟩:=kB b ob hb n1
     exact ⟨o',PySem.W.hideAll_get _ y1 n2,y2⟩
   have slotU:∀ b ob,s1.heap.get? b = some ob→H1 b = none→b ∈ frs X.stack→∃ sl,h5.get? b = some { ob with slots:=sl }:=fun b ob hb n hm => by
     obtain ⟨sl1,y1⟩:=un.slot b ob hb n hm (by simp)
     have nf:=zf_ fl.2.2.1 b hm _ y1
     obtain ⟨sl2,y2⟩:=up4 b _ y1 nf
     have y3:=(sbo b fun z => nC (by rw [← z]; exact hm)).trans y2
     obtain ⟨sl3,y4⟩:=up5 b _ y3 nf
     exact ⟨sl3,y4⟩
   have un':Un (frs X.stack) [C] H1 H' s1.heap h5:=by
     refine ⟨fun b ob hb n n1 n2 => ?_,fun b ob hb n hm _ => slotU b ob hb n hm,fun b ob hb n _ => un.free b ob hb n (by simp),fun b ob hb n2 => ?_,un.tups,un.frzs,un.tbls⟩
     · obtain ⟨o',y1,y2⟩:=kB' b ob hb n1 n2
       rw [← y2 n]
       exact j1 b o' y1
     · by_cases hm:b ∈ frs X.stack
       · obtain ⟨sl,y⟩:=slotU b ob hb (J1.stkFree b hm) hm
         exact ⟨_,y⟩
       · obtain ⟨o',y1,_⟩:=kB' b ob hb hm n2
         exact ⟨o',j1 b o' y1⟩
   have nHC:H' C = none:=un.free C o ho J.free (by simp)
   have hok':HOk X.prog X.w H' (PySem.W.hideAll B [C]):=fun b ob hb => by
     refine (hok b ob hb).stay (fun c u hcb y => PySem.W.hideAll_get _ y fun hm => ?_) (fun _ y => y) fun _ _ y => y
     have z:c = C:=by simpa using hm
     subst z
     rcases hcb with z | z
     · rw [z] at nHC; rw [nHC] at hb; cases hb
     · rw [nHC] at z; cases z
   exact hF pins σ H1 s1 [C] (.ref a) { s' with heap:=h5 } J1 (fun b hb => by rw [List.mem_singleton.mp hb]; exact fC) ⟨a,C',t,H',_,c2,_,rfl,os,bare,j1,none' _ fl.2.1,by rw [hst]; exact j2,j3,hok',un',kB',new,qE⟩
 · obtain ⟨m,hn⟩:=hn
   obtain ⟨c0,c1,c2,c3,c4,c5⟩:=fc
   exact ⟨m,hn,fun h' hs' => ⟨.ref D,H',I'.turned (t':=s'.toks) (fun b o hb e => hs'.extBut b o hb e) c0 c1 c3 c4 c5,rfl,q⟩⟩
end
end L2
namespace SetPure
open PySem
noncomputable def pl (p:Nat→Bool):List Nat:=(List.range 7).filter p
noncomputable def tb (mask:Nat) (p:Nat→Bool) (fin:Nat) (led:Bool) (mov:Nat):SetTable:={ mask:=mask,place:=(pl p).toArray,dummies:=#[],finger:=fin,led:=led,moves:=mov,plain:=true }
noncomputable def jbj_:List Nat:=[7,15,31]
end SetPure
namespace SetPure
open PySem
noncomputable abbrev bt (w:World):Bool:=w.params.followText "set-order"
noncomputable def kbj_ (p:Nat→Bool) (es:Array (Int × Value)):Prop:=Paired (fun (i:Nat) (e:Int × Value) => e.1 = (i:Int) ∧ ∃ t,e.2 = .int i t) (pl p) es.toList
noncomputable def qaq_ (w:World) (es:Array (Int × Value)) (ep mask:Nat) (p:Nat→Bool) (fin mov:Nat):Obj:={ cls:=.type "set",dict:=none,data:=.set es ep (tb mask p fin (!bt w) mov) }
noncomputable def za1_ (w:World) (h:Heap) (a:Addr) (p:Nat→Bool):Prop:=∃ es ep mask fin mov,h.get? a = some (qaq_ w es ep mask p fin mov) ∧ kbj_ p es ∧ mask ∈ jbj_ ∧ (mask = 7→(pl p).length ≤ 4)
section
variable {prog:Program} {w:World} {A:Around} {E:Value→Shared→Prop} {s:Shared}
end
section
variable {prog:Program} {w:World} {A:Around} {R:Result→Shared→Prop} {I:Addr} {fp wr:List Addr} {G:Array GenState→Array GenState→Prop} {n:Nat} {P:Nat→Value→Prop} {St:Nat→Shared→Prop}
end
end SetPure
namespace SetPure
open PySem
section
variable {prog:Program} {w:World} {A:Around} {E:Value→Shared→Prop} {s:Shared}
end
end SetPure
namespace SetPure
open PySem
section
variable {prog:Program} {w:World} {A:Around} {E:Value→Shared→Prop} {s:Shared} {I S:Addr} {es:Array (Int × Value)} {ep:Nat} {T:SetTable} {i:Nat}
end
section
variable {prog:Program} {w:World} {A:Around} {E:Value→Shared→Prop} {s:Shared} {S:Addr} {p:Nat→Bool}
end
end SetPure
namespace SetPure
open PySem
section
variable {prog:Program} {w:World} {A:Around} {E:Value→Shared→Prop} {s:Shared}
end
end SetPure
namespace SortPure
open PySem PySem.W PyProof.Rows
section
variable {prog:Program} {w:World} {A:Around} {E:Value→Shared→Prop} {s:Shared}
end
end SortPure
namespace PySem.W
open PySem PySem.Spec PySem.Calls PyProof.Rows Builtin Builtin.ObjectAttr Builtin.Getset_descriptor
structure ExcIsi (K:Frag) (C:Addr):Prop where
 ga:findIn K (.ref C) "__getattribute__" = some (some (.builtin "BaseException.__getattribute__"))
 gt:findIn K (.ref C) "__getattr__" = some none
 ca:findIn K (.ref C) "__class__" = some (some (.builtin "object.__class__"))
 cg:specialIn K (.builtin "object.__class__") "__get__" = some (some (.builtin "getset_descriptor.__get__"))
 tk:takesIn K (.builtin "object.__class__") = some true
 ob:mroIn K C (.type "object") = some true
 be:mroIn K C (.type "BaseException") = some true
section
variable {prog:Program} {w:World} {A:Around} {E:Value→Shared→Prop} {R:Result→Shared→Prop} {s:Shared} {K:Frag} {x C:Addr} {o:Obj}
theorem zy_ {tp:Value} (X:K.In s.heap) (hx:s.heap.get? x = some o) (hc:o.cls = .ref C) (hm:mroIn K C (.type "object") = some true)
   (h:R (.ok (.ret (.ref C))) s):codeAny (model prog w) A (.call (.builtin "getset_descriptor.__get__") ⟨[.builtin "object.__class__",.ref x,tp],[]⟩) R s:=by
 obtain ⟨hh,g,dr,t,os⟩:=s
 have L0:Looks (model prog w) hh (typeOf (.ref x)) (.ref C):=hc ▸ (Looks.ld hx).andThen .now
 have L1:=looks_mroIn (M:=model prog w) X hm
 refine codeAny_call_builtin KF.slot_gs.plain KF.entry_gs (KF.slot_gs.check _ _ _ _ _ _ _ _ KF.type_class (KF.args_gs _ _ _) ?_)
 unfold Builtin.«getset_descriptor.__get__» descrGet
 rw [dga_obj]
 refine wpAny_bind (wpAny_pure ?_)
 unfold descrGetter descrCheckInstance descrNameAndClass isInstance
 simp only [KF.owner_class]
 repeat lk
 refine ⟨Code.quiet_builtin _ (by decide +kernel),codeAny_builtin KF.entry_class ?_⟩
 unfold Builtin.«object.__class__» shownTypeOf
 repeat lk
 exact h
theorem kai_ {nameV:Value} {Q:Unit→Shared→Prop} (X:K.In s.heap) (T:ExcIsi K C) (hx:s.heap.get? x = some o) (hc:o.cls = .ref C) (hq:Q () s) :
   wpAny (model prog w) A (checkBuiltinCall "BaseException.__getattribute__" ⟨[.ref x,nameV],[]⟩) Q E s:=by
 obtain ⟨hh,g,dr,t,os⟩:=s
 have hk:builtinKind "BaseException.__getattribute__" = some .slot:=by decide +kernel
 have hsplit:splitId "BaseException.__getattribute__" = some ("BaseException","__getattribute__"):=by decide +kernel
 have ha:=PySem.F.args_bexc_ga (.ref x) nameV
 have L0:Looks (model prog w) hh (typeOf (.ref x)) (.ref C):=hc ▸ (Looks.ld hx).andThen .now
 have LB:Looks (model prog w) hh (isInstance (.ref x) (.type "BaseException")) true:=L0.andThen (looks_mroIn X T.be)
 simp only [checkBuiltinCall,hk,hsplit]
 refine wpAny_bind (LB.at ?_)
 repeat (any_goals (first | assumption | wp_step))
theorem vai_ {Q:Option Value→Shared→Prop} (X:K.In s.heap) (T:ExcIsi K C) (hx:s.heap.get? x = some o) (hc:o.cls = .ref C) (h:Q (some (.ref C)) { s with toks:=s.toks + 1 }):wpAny (model prog w) A (getAttr? (.ref x) "__class__") Q E s:=by
 obtain ⟨hh,g,d,t,os⟩:=s
 have L0:Looks (model prog w) hh (typeOf (.ref x)) (.ref C):=hc ▸ (Looks.ld hx).andThen .now
 have L1:=looks_findIn (M:=model prog w) X T.ga
 have L2:=looks_findIn (M:=model prog w) X T.gt
 unfold getAttr? getAttrBy? getAttrBy
 refine wpAny_bind (wpAny_mkText (wpAny_bind (wpAny_attempt (wpAny_holding (wpAny_bind (L0.at (wpAny_bind (L1.at ?_))))))))
 have hx2:(Value.builtin "BaseException.__getattribute__" == Value.builtin "object.__getattribute__") = false:=by decide +kernel
 dsimp only
 rw [hx2]
 simp only [Bool.and_false,Bool.false_eq_true,↓reduceIte]
 unfold getAttrByItsOwn hookBefore
 refine wpAny_bind ?_
 rw [if_pos (show onTheHeap (Value.ref C) = true from rfl)]
 refine L2.at ?_
 refine wpAny_bind (wpAny_attempt (wpAny_holding ?_))
 unfold callGetattribute
 rw [if_neg (by simp)]
 unfold boundAndCalled
 refine wpAny_bind (wpAny_of_eq (PySem.F.excAttr_ValueError.ga.bind (.ref x)) ?_)
 dsimp only
 refine wpAny_call (codeAny_call_builtin PySem.F.excAttr_ValueError.ga.plain PySem.F.entry_bexc_ga ?_)
 refine kai_ X T hx hc ?_
 have LF:Looks (model prog w) hh (find (.ref x) (.ref C) "__class__") (.bind (.builtin "getset_descriptor.__get__") (.builtin "object.__class__")) :=
   (looks_findIn (M:=model prog w) X T.ca).andThen ((looks_specialIn (M:=model prog w) X T.cg).andThen ((show Looks (model prog w) hh (dataDescriptor? (some (.builtin "object.__class__")) (some (.builtin "getset_descriptor.__get__"))) (some (.builtin "getset_descriptor.__get__",.builtin "object.__class__")) from (looks_takesIn (M:=model prog w) X T.tk).andThen .now).andThen (Looks.tag .now)))
 unfold Builtin.«object.__getattribute__»
 refine wpAny_bind (m:=slotArgs "__getattribute__" 1 _) (wpAny_pure ?_)
 refine wpAny_bind (m:=attrName _) (wpAny_pure ?_)
 refine wpAny_bind (L0.at (wpAny_bind (LF.at ?_)))
 show wpAny _ _ (holding [.builtin "object.__class__"] (call (.builtin "getset_descriptor.__get__") [.builtin "object.__class__",.ref x,.ref C]) >>= ret) _ _ _
 refine wpAny_bind (wpAny_holding (wpAny_call (zy_ X hx hc T.ob ?_)))
 refine wpAny_pure ?_
 refine wpAny_of_eq (a:=Value.ref C) rfl ?_
 exact wpAny_pure h
theorem kitx_exc (T:ExcIsi K C) (hcl:(clsIn K C).isSome = true):KitX K (.ref x) (.ref C) (fun h => ∃ o vs,h.get? x = some o ∧ o.cls = .ref C ∧ o.data = .fields vs) where
 ty:=fun _ _ _ ⟨o,_,ho,hc,_⟩ => hc ▸ (Looks.ld ho).andThen .now
 it:=fun _ _ X _ => by
   obtain ⟨cdD,hcD⟩:=Option.isSome_iff_exists.mp hcl
   unfold clsIn at hcD
   split at hcD
   · rename_i c' d' cd' sl' ho
     intro A' Q' E' s' k q
     unfold isType loadHead
     exact wpAny_bind (wpAny_loadPart (k _ _ (X _ _ ho)) (wpAny_pure q))
   · cases hcD
 ne:=fun h tp dd its n sl X htp => by
   obtain ⟨cdD,hcD⟩:=Option.isSome_iff_exists.mp hcl
   refine Bool.eq_false_iff.mpr fun q => ?_
   have e:C = tp:=Value.ref.inj (beq_iff_eq.mp q)
   subst e
   unfold clsIn at hcD
   split at hcD
   · rename_i c' d' cd' sl' ho
     have z:=(X _ _ ho).symm.trans htp
     cases z
   · cases hcD
 ca:=fun X ⟨o,_,ho,hc,_⟩ k => vai_ X T ho hc k
end
end PySem.W
namespace FM
noncomputable abbrev Ln:=Int × Int
noncomputable def zbb_ (l:List Int):Prop:=l.Pairwise (· < ·)
noncomputable def Good (n:Int) (ls:List Ln):Prop:=∀ p ∈ ls,0 ≤ p.1 ∧ p.1 < p.2 ∧ p.2 < n
theorem wv_:∀ {l:List Int} {a n:Int},zbb_ l→(∀ x ∈ l,a ≤ x ∧ x < n)→(l.length:Int) ≤ max 0 (n - a)
 | [],a,n,_,_ => by simp; omega
 | x :: r,a,n,h,w => by
   obtain ⟨h1,h2⟩:=List.pairwise_cons.mp h
   have hx:=w x (List.mem_cons_self ..)
   have:=wv_ (a:=x + 1) (n:=n) h2 fun y hy => ⟨h1 y hy,(w y (List.mem_cons_of_mem _ hy)).2⟩
   rw [List.length_cons]
   push_cast
   omega
noncomputable def jp_ (p q:Ln):Prop:=p.1 < q.1 ∨ (p.1 = q.1 ∧ p.2 < q.2)
end FM
namespace DT
section
variable (lt:Nat→Nat→Bool)
variable (a b:Array Nat)
end
section
variable (lt:Nat→Nat→Bool)
end
end DT
namespace DS
open PySem (Str sizeLine)
inductive D where
 | non | bl (b:Bool) | int (i:Int) | str (x:Str) | lst (xs:List D) | tup (xs:List D) | set (xs:List Int) | exc (n:String)
set_option genInjectivity false in
inductive Sl where
 | un | sh (d:D) | ow (xs:List D)
noncomputable abbrev Rho:=List Sl
set_option genInjectivity false in
inductive R (α:Type) where
 | ok (a:α) | er (n:String)
noncomputable abbrev M (α:Type):=Rho→Option (Rho × R α)
section
variable {α β:Type}
noncomputable def ret (a:α):M α:=fun ρ => some (ρ,.ok a)
noncomputable def lft (o:Option α):M α:=fun ρ => match o with
 | none => none
 | some a => some (ρ,.ok a)
noncomputable def bnd (m:M α) (f:α→M β):M β:=fun ρ => match m ρ with
 | none => none
 | some (ρ',.er n) => some (ρ',.er n)
 | some (ρ',.ok a) => f a ρ'
end
noncomputable def vr (i:Nat):M D:=fun ρ => match ρ[i]? with
 | some (.sh d) => some (ρ,.ok d)
 | some (.ow xs) => some (ρ.set i (.sh (.lst xs)),.ok (.lst xs))
 | _ => none
noncomputable def cst (d:D):M D:=ret d
noncomputable def op1 (f:D→Option D) (a:M D):M D:=bnd a fun x => lft (f x)
noncomputable def op2 (f:D→D→Option D) (a b:M D):M D:=bnd a fun x => bnd b fun y => lft (f x y)
noncomputable def isL:D→Option Unit
 | .lst _ => some ()
 | _ => none
noncomputable def opL (f:D→D→Option D) (a b:M D):M D:=bnd a fun x => bnd (lft (isL x)) fun _ => bnd b fun y => lft (f x y)
noncomputable def nilA:M (List D):=ret []
noncomputable def ya_ (a:M D) (r:M (List D)):M (List D):=bnd a fun x => bnd r fun xs => ret (x :: xs)
noncomputable def fits (xs:List D):Option (List D):=if xs.length ≤ sizeLine then some xs else none
noncomputable def tupE (a:M (List D)):M D:=bnd a fun xs => lft ((fits xs).map .tup)
noncomputable def lstE (a:M (List D)):M D:=bnd a fun xs => lft ((fits xs).map .lst)
noncomputable def cal (F:List D→Option (R D)) (a:M (List D)):M D:=bnd a fun xs ρ => match F xs with
 | none => none
 | some r => some (ρ,r)
noncomputable def blt (f:List D→Option D) (a:M (List D)):M D:=bnd a fun xs => lft (f xs)
noncomputable def ko_:D→Option Bool
 | .non => some false
 | .bl b => some b
 | .int i => some (i != 0)
 | .str x => if x.length ≤ sizeLine then some ((x.length:Int) != 0) else none
 | .lst xs => some (!xs.isEmpty)
 | .tup xs => some (!xs.isEmpty)
 | _ => none
noncomputable def asB:D→Option Bool
 | .bl b => some b
 | _ => none
noncomputable def tst (a:M D):M Bool:=bnd a fun x => lft (ko_ x)
noncomputable def tsB (a:M D):M Bool:=bnd a fun x => lft (asB x)
noncomputable def andT (a b:M Bool):M Bool:=bnd a fun x => if x = true then b else ret false
noncomputable def orT (a b:M Bool):M Bool:=bnd a fun x => if x = true then ret true else b
noncomputable def notT (a:M Bool):M Bool:=bnd a fun x => ret (!x)
noncomputable def andV (a b:M D):M D:=bnd (tsB a) fun x => if x = true then b else ret (.bl false)
noncomputable def orV (a b:M D):M D:=bnd (tsB a) fun x => if x = true then ret (.bl true) else b
noncomputable def ifE (c:M Bool) (a b:M D):M D:=bnd c fun x => if x = true then a else b
noncomputable def chn (f g:D→D→Option D) (a b c:M D):M D:=bnd a fun x => bnd b fun y => bnd (lft ((f x y).bind asB)) fun k => if k = true then bnd c fun z => lft (g y z) else ret (.bl false)
noncomputable def x7_ (i j:Int):Bool:=(decide (-(2 ^ 64) < i) && decide (i < 2 ^ 64)) || (decide (-(2 ^ 64) < j) && decide (j < 2 ^ 64))
noncomputable def addD:D→D→Option D
 | .int i,.int j => some (.int (i + j))
 | .lst a,.lst b => if a.length + b.length ≤ sizeLine then some (.lst (a ++ b)) else none
 | .tup a,.tup b => if a.length + b.length ≤ sizeLine then some (.tup (a ++ b)) else none
 | .str a,.str b => if a.length + b.length ≤ sizeLine then some (.str (a ++ b)) else none
 | _,_ => none
noncomputable def subD:D→D→Option D
 | .int i,.int j => some (.int (i - j))
 | _,_ => none
noncomputable def mulD:D→D→Option D
 | .int i,.int j => if x7_ i j = true then some (.int (i * j)) else none
 | .lst a,.int k => if (decide (-(2 ^ 63) ≤ k) && decide (k < 2 ^ 63) && decide (a.length * k.toNat ≤ sizeLine)) = true then some (.lst (List.replicate k.toNat a).flatten) else none
 | _,_ => none
noncomputable def fdvD:D→D→Option D
 | .int i,.int j => if (decide (0 < j) && decide (j < 1073741824)) = true then some (.int (i / j)) else none
 | _,_ => none
noncomputable def modD:D→D→Option D
 | .int i,.int j => if 0 < j then some (.int (i % j)) else none
 | _,_ => none
noncomputable def negD:D→Option D
 | .int i => some (.int (-i))
 | _ => none
mutual
noncomputable def eqD:D→D→Bool
 | .non,.non => true
 | .bl a,.bl b => a == b
 | .bl a,.int b => (if a then (1:Int) else 0) == b
 | .int a,.bl b => a == (if b then (1:Int) else 0)
 | .int a,.int b => a == b
 | .str a,.str b => a == b
 | .lst a,.lst b => eqDs a b
 | .tup a,.tup b => eqDs a b
 | _,_ => false
noncomputable def eqDs:List D→List D→Bool
 | [],[] => true
 | x :: xs,y :: ys => eqD x y && eqDs xs ys
 | _,_ => false
end
mutual
noncomputable def dep:D→Option Nat
 | .lst xs => (deps xs).map (· + 1)
 | .tup xs => (deps xs).map (· + 1)
 | .set _ => none
 | .exc _ => none
 | _ => some 0
noncomputable def deps:List D→Option Nat
 | [] => some 0
 | x :: xs => match dep x,deps xs with
   | some a,some b => some (max a b)
   | _,_ => none
end
noncomputable def eqOk (d:D):Bool:=match dep d with
 | some n => decide (n ≤ 20)
 | none => false
noncomputable def eqF (x y:D):Option D:=if (eqOk x && eqOk y) = true then some (.bl (eqD x y)) else none
noncomputable def neF (x y:D):Option D:=if (eqOk x && eqOk y) = true then some (.bl (!eqD x y)) else none
noncomputable def lexLt:List Int→List Int→Bool
 | [],[] => false
 | [],_ :: _ => true
 | _ :: _,[] => false
 | x :: xs,y :: ys => if x = y then lexLt xs ys else decide (x < y)
noncomputable def qg_:List D→Option (List Int)
 | [] => some []
 | .int i :: r => (qg_ r).map (i :: ·)
 | _ => none
noncomputable def ltF:D→D→Option D
 | .int i,.int j => some (.bl (decide (i < j)))
 | .tup a,.tup b => match qg_ a,qg_ b with
   | some x,some y => some (.bl (lexLt x y))
   | _,_ => none
 | _,_ => none
noncomputable def leF:D→D→Option D
 | .int i,.int j => some (.bl (decide (i ≤ j)))
 | _,_ => none
noncomputable def gtF:D→D→Option D
 | .int i,.int j => some (.bl (decide (j < i)))
 | _,_ => none
noncomputable def ja_:D→Option (List D)
 | .lst xs => some xs
 | .tup xs => some xs
 | _ => none
noncomputable def isN:D→Option D
 | .non => some (.bl true)
 | _ => some (.bl false)
noncomputable def noN:D→Option D
 | .non => some (.bl false)
 | _ => some (.bl true)
noncomputable def ixN (n:Nat) (i:Int):Option Nat:=if 0 ≤ i then (if i < n then some i.toNat else none) else if -(n:Int) ≤ i then some (i + n).toNat else none
noncomputable def atI {α:Type} (xs:List α) (i:Int):Option α:=(ixN xs.length i).bind fun j => xs[j]?
noncomputable def ixD:D→D→Option D
 | .lst xs,.int i => atI xs i
 | .tup xs,.int i => atI xs i
 | _,_ => none
noncomputable def sIx (n d:Nat):Option Int→Nat
 | none => d
 | some v => if v < 0 then (max (v + (n:Int)) 0).toNat else (min v (n:Int)).toNat
noncomputable def cut {α:Type} (xs:List α) (lo hi:Option Int):List α:=(xs.drop (sIx xs.length 0 lo)).take (sIx xs.length xs.length hi - sIx xs.length 0 lo)
noncomputable def asI:D→Option Int
 | .int i => some i
 | _ => none
noncomputable def part:Option (M D)→M (Option Int)
 | none => ret none
 | some a => bnd a fun x => lft ((asI x).map some)
noncomputable def slD (x:D) (lo hi:Option Int):Option D:=match x with
 | .lst xs => some (.lst (cut xs lo hi))
 | .tup xs => some (.tup (cut xs lo hi))
 | _ => none
noncomputable def slE (a:M D) (lo hi:Option (M D)):M D:=bnd a fun x => bnd (part lo) fun l => bnd (part hi) fun h => lft (slD x l h)
noncomputable def revD:D→Option D
 | .lst xs => some (.lst xs.reverse)
 | .tup xs => some (.tup xs.reverse)
 | _ => none
noncomputable def lenF:List D→Option D
 | [.lst xs] => some (.int xs.length)
 | [.tup xs] => some (.int xs.length)
 | _ => none
noncomputable def bools:List D→Option (List Bool)
 | [] => some []
 | .bl b :: r => (bools r).map (b :: ·)
 | _ => none
noncomputable def allF:List D→Option D
 | [.lst xs] => (bools xs).map fun bs => .bl (bs.all id)
 | _ => none
noncomputable def asN:D→Option Int
 | .int i => some i
 | _ => none
theorem ya1_ {d:D} {i:Int} (h:asN d = some i):d = .int i:=by
 cases d with
 | int ys => cases h; rfl
 | _ => cases h
noncomputable def asL:D→Option (List D)
 | .lst xs => some xs
 | _ => none
noncomputable def one {α:Type}:List α→Option α
 | [a] => some a
 | _ => none
theorem xa1_ {d:D} {xs:List D} (h:asL d = some xs):d = .lst xs:=by
 cases d with
 | lst ys => cases h; rfl
 | _ => cases h
theorem w7_ {α:Type} {l:List α} {p:α} (h:one l = some p):l = [p]:=by
 cases l with
 | nil => cases h
 | cons a l =>
   cases l with
   | nil => cases h; rfl
   | cons b l => cases h
noncomputable def isiE (cls:List String) (sup:String→String→Bool) (m:String):D→Option D
 | .exc n => if cls.contains n = true then some (.bl (sup n m)) else none
 | _ => none
noncomputable def cntD (o x:D):Option D:=match o with
 | .lst xs => if (eqOk x && xs.all eqOk) = true then some (.int (xs.countP fun y => eqD y x)) else none
 | _ => none
noncomputable def idxD (o x:D):Option D:=match o with
 | .lst xs => if (eqOk x && xs.all eqOk) = true then (if (xs.findIdx fun y => eqD y x) < xs.length then some (.int (xs.findIdx fun y => eqD y x)) else none) else none
 | _ => none
noncomputable abbrev FI:=M (List D)
noncomputable def itE (a:M D):FI:=bnd a fun x => lft (ja_ x)
noncomputable def rng (lo hi:Int):List D:=(List.range (hi - lo).toNat).map fun (k:Nat) => .int (lo + k)
noncomputable def inR:Int→Bool
 | .ofNat k => Nat.ble k 2305843009213693951
 | .negSucc k => Nat.ble k 2305843009213693951
theorem zk_ {i:Int}:inR i = true ↔ -2305843009213693952 ≤ i ∧ i ≤ 2305843009213693951:=by
 cases i with
 | ofNat k => rw [inR,Nat.ble_eq]; simp; omega
 | negSucc k => rw [inR,Nat.ble_eq]; omega
theorem uai_ {i:Int} (h:inR i = true):(decide (-(2 ^ 62) ≤ i) && decide (i < 2 ^ 62)) = true:=by
 have:=zk_.mp h
 simp; omega
noncomputable def rg1:List D→Option (List D)
 | [.int j] => if inR j = true then some (rng 0 j) else none
 | _ => none
noncomputable def rg2:List D→Option (List D)
 | [.int i,.int j] => if (inR i && inR j) = true then some (rng i j) else none
 | _ => none
noncomputable def itR1 (a:M (List D)):FI:=bnd a fun xs => lft (rg1 xs)
noncomputable def itR2 (a:M (List D)):FI:=bnd a fun xs => lft (rg2 xs)
set_option genInjectivity false in
inductive Tg where
 | nm (i:Nat) | tp (is:List Nat)
noncomputable def sets:List Nat→List D→Rho→Rho
 | i :: is,d :: ds,ρ => sets is ds (ρ.set i (.sh d))
 | _,_,ρ => ρ
noncomputable def asg:Tg→D→Rho→Option Rho
 | .nm i,d,ρ => some (ρ.set i (.sh d))
 | .tp is,.tup ds,ρ => if ds.length = is.length then some (sets is ds ρ) else none
 | _,_,_ => none
noncomputable def above (n:Nat):Tg→Bool
 | .nm i => decide (n ≤ i)
 | .tp is => is.all fun i => decide (n ≤ i)
noncomputable def kj_ (tg:Tg) (c:M Bool) (e:M D):List D→List D→Rho→Option (Rho × List D)
 | [],acc,ρ => some (ρ,acc)
 | d :: ds,acc,ρ => match asg tg d ρ with
   | none => none
   | some ρ1 => match c ρ1 with
     | some (ρ2,.ok true) => (match e ρ2 with
       | some (ρ3,.ok v) => kj_ tg c e ds (acc ++ [v]) ρ3
       | _ => none)
     | some (ρ2,.ok false) => kj_ tg c e ds acc ρ2
     | _ => none
noncomputable def yf_ (it:FI) (tg:Tg) (k:Nat) (c:M Bool) (e:M D):M D:=fun ρ => match it ρ with
 | none => none
 | some (ρ1,.er n) => some (ρ1,.er n)
 | some (ρ1,.ok ds) => if (decide (ds.length ≤ sizeLine) && above ρ1.length tg) = true then (match kj_ tg c e ds [] (ρ1 ++ List.replicate k .un) with
   | some (ρ2,acc) => some (ρ2.take ρ1.length,.ok (.lst acc))
   | none => none) else none
noncomputable def yes:M Bool:=ret true
set_option genInjectivity false in
inductive O where
 | nx | rt (d:D) | er (n:String) | bk | ct
noncomputable abbrev FS:=Rho→Option (Rho × O)
noncomputable def sNx:FS:=fun ρ => some (ρ,.nx)
noncomputable def sq (a b:FS):FS:=fun ρ => match a ρ with
 | some (ρ',.nx) => b ρ'
 | r => r
noncomputable def sx (a:M D) (f:D→FS):FS:=fun ρ => match a ρ with
 | none => none
 | some (ρ',.er n) => some (ρ',.er n)
 | some (ρ',.ok d) => f d ρ'
noncomputable def sE (a:M D):FS:=sx a fun _ ρ => some (ρ,.nx)
noncomputable def sR (a:M D):FS:=sx a fun d ρ => some (ρ,.rt d)
noncomputable def sA (tg:Tg) (a:M D):FS:=sx a fun d ρ => match asg tg d ρ with
 | some ρ' => some (ρ',.nx)
 | none => none
noncomputable def sO (i:Nat) (a:M (List D)):FS:=fun ρ => match a ρ with
 | none => none
 | some (ρ',.er n) => some (ρ',.er n)
 | some (ρ',.ok xs) => if xs.length ≤ sizeLine then some (ρ'.set i (.ow xs),.nx) else none
noncomputable def sP (i:Nat) (a:M D):FS:=fun ρ => match ρ[i]? with
 | some (.ow _) => (match a ρ with
   | none => none
   | some (ρ',.er n) => some (ρ',.er n)
   | some (ρ',.ok d) => match ρ'[i]? with
     | some (.ow xs) => if xs.length < sizeLine then some (ρ'.set i (.ow (xs ++ [d])),.nx) else none
     | _ => none)
 | _ => none
noncomputable def sX (i:Nat) (a:M D):FS:=fun ρ => match ρ[i]? with
 | some (.ow _) => (match a ρ with
   | none => none
   | some (ρ',.er n) => some (ρ',.er n)
   | some (ρ',.ok (.lst ys)) => (match ρ'[i]? with
     | some (.ow xs) => if xs.length + ys.length ≤ sizeLine then some (ρ'.set i (.ow (xs ++ ys)),.nx) else none
     | _ => none)
   | _ => none)
 | _ => none
noncomputable def sI (c:M Bool) (a b:FS):FS:=fun ρ => match c ρ with
 | none => none
 | some (ρ',.er n) => some (ρ',.er n)
 | some (ρ',.ok true) => a ρ'
 | some (ρ',.ok false) => b ρ'
noncomputable def sT (n:String):FS:=fun ρ => some (ρ,.er n)
noncomputable def forL (tg:Tg) (b:FS):List D→FS
 | [],ρ => some (ρ,.nx)
 | d :: ds,ρ => match asg tg d ρ with
   | none => none
   | some ρ1 => match b ρ1 with
     | some (ρ2,.nx) => forL tg b ds ρ2
     | some (ρ2,.ct) => forL tg b ds ρ2
     | some (ρ2,.bk) => some (ρ2,.nx)
     | r => r
noncomputable def sF (it:FI) (tg:Tg) (b:FS):FS:=fun ρ => match it ρ with
 | none => none
 | some (ρ1,.er n) => some (ρ1,.er n)
 | some (ρ1,.ok ds) => forL tg b ds ρ1
noncomputable def sTry (cls:List String) (sup:String→Bool) (i:Nat) (b h:FS):FS:=fun ρ => match b ρ with
 | some (ρ1,.er n) => if (cls.contains n && sup n) = true then (match h (ρ1.set i (.sh (.exc n))) with
   | some (_,.er _) => none
   | some (ρ2,o) => some (ρ2.set i .un,o)
   | none => none) else none
 | r => r
noncomputable def outc:Option (Rho × O)→Option (R D)
 | some (_,.rt d) => some (.ok d)
 | some (_,.nx) => some (.ok .non)
 | some (_,.er n) => some (.er n)
 | _ => none
noncomputable def run (ps N:Nat) (b:FS) (ds:List D):Option (R D):=if ds.length = ps then outc (b (ds.map .sh ++ List.replicate (N - ps) .un)) else none
end DS
namespace DS
end DS
namespace DS
open PySem
noncomputable def intS (i:Int):Str:=Str.ofString (toString i)
noncomputable abbrev jv_ (i:Int):Bool:=inR i
noncomputable def strD:D→Option D
 | .int i => if jv_ i = true then some (.str (intS i)) else none
 | _ => none
noncomputable def strF (ds:List D):Option D:=(one ds).bind strD
noncomputable def asS:D→Option Str
 | .str x => some x
 | _ => none
theorem zd_ {d:D} {x:Str} (h:asS d = some x):d = .str x:=by
 cases d with
 | str y => cases h; rfl
 | _ => cases h
noncomputable def wl_ (x:Str):Bool:=decide (0 < x.length) && decide (x.length ≤ 2) && x.cps.toList.all fun c => decide (48 ≤ c) && decide (c ≤ 57)
noncomputable def digV (x:Str):Int:=x.cps.toList.foldl (fun (v:Int) (c:Nat) => v * 10 + ((c:Int) - 48)) 0
noncomputable def intF (ds:List D):Option D:=(one ds).bind fun d => (asS d).bind fun x => if wl_ x = true then some (.int (digV x)) else none
noncomputable def lim:Nat:=100000
noncomputable def fmtD:D→Option D
 | .int i => if jv_ i = true then some (.str (intS i)) else none
 | .str x => if x.length ≤ lim then some (.str x) else none
 | _ => none
noncomputable def strz:List D→Option (List Str)
 | [] => some []
 | d :: r => (asS d).bind fun x => (strz r).map (x :: ·)
noncomputable def fsE (a:M (List D)):M D:=bnd a fun xs => lft ((strz xs).bind fun ys => if (ys.map (·.length)).sum ≤ lim then some (.str (ys.foldl (· ++ ·) Str.empty)) else none)
noncomputable def q1_ (s l:D):Option D:=(asS s).bind fun x => (asL l).bind fun xs => (strz xs).bind fun ys => if ((ys.map (·.length)).sum + ys.length * x.length ≤ lim) then some (.str (Str.join x ys)) else none
noncomputable def jj_ (s t:D):Option D:=(asS s).bind fun x => (asS t).bind fun y => if (decide (0 < y.length) && decide (x.length ≤ lim)) = true then some (.lst ((Txt.split x y).map .str)) else none
noncomputable def swD (s t:D):Option D:=(asS s).bind fun x => (asS t).map fun y => .bl (Txt.startswith x y)
noncomputable def ewD (s t:D):Option D:=(asS s).bind fun x => (asS t).map fun y => .bl (Txt.endswith x y)
noncomputable def cntS (s t:D):Option D:=(asS s).bind fun x => (asS t).bind fun y => if 0 < y.length then some (.int (Txt.count x y)) else none
noncomputable def opS (f:D→D→Option D) (a b:M D):M D:=bnd a fun x => bnd (lft (asS x)) fun _ => bnd b fun y => lft (f x y)
noncomputable def slS (x:D) (lo hi:Option Int):Option D:=(asS x).bind fun s => if s.length ≤ lim then some (.str (Txt.slice s lo hi)) else none
noncomputable def slSE (a:M D) (lo hi:Option (M D)):M D:=bnd a fun x => bnd (part lo) fun l => bnd (part hi) fun h => lft (slS x l h)
noncomputable def ixS (x i:D):Option D:=(asS x).bind fun s => (asN i).bind fun j => if s.length ≤ lim then (atI s.cps.toList j).map fun c => .str ⟨#[c]⟩ else none
noncomputable def lenS (ds:List D):Option D:=(one ds).bind fun d => (asS d).bind fun x => if x.length ≤ lim then some (.int x.length) else none
noncomputable def inS (x y:D):Option D:=(asS x).bind fun s => (asS y).map fun t => .bl (Txt.contains t s)
noncomputable def ut_ (x:Str):List D:=x.cps.toList.map fun c => .str ⟨#[c]⟩
noncomputable def itS (a:M D):FI:=bnd a fun x => lft ((asS x).bind fun s => if s.length ≤ lim then some (ut_ s) else none)
noncomputable def sTrX (cls:List String) (sup:String→Bool) (m:String) (b:FS):FS:=fun ρ => match b ρ with
 | some (ρ1,.er n) => if (cls.contains n && sup n) = true then some (ρ1,.er m) else none
 | r => r
noncomputable def yk_ (tg:Tg) (e:M D):List D→List D→Rho→Option (Rho × R (List D))
 | [],acc,ρ => some (ρ,.ok acc)
 | d :: ds,acc,ρ => match asg tg d ρ with
   | none => none
   | some ρ1 => match e ρ1 with
     | some (ρ3,.ok v) => yk_ tg e ds (acc ++ [v]) ρ3
     | some (ρ3,.er n) => some (ρ3,.er n)
     | none => none
noncomputable def uad_ (it:FI) (tg:Tg) (k:Nat) (e:M D):M D:=fun ρ => match it ρ with
 | none => none
 | some (ρ1,.er n) => some (ρ1,.er n)
 | some (ρ1,.ok ds) => if (decide (ds.length ≤ sizeLine) && above ρ1.length tg) = true then (match yk_ tg e ds [] (ρ1 ++ List.replicate k .un) with
   | some (ρ2,.ok acc) => some (ρ2.take ρ1.length,.ok (.lst acc))
   | some (ρ2,.er n) => some (ρ2.take ρ1.length,.er n)
   | none => none) else none
end DS
namespace DS
open PySem (Str sizeLine)
theorem qai_ {P:Prop} {tg:Tg} {fc:M Bool} {fe:M D} {d:D} {ds acc:List D} {ρ:Rho} {r:Rho × List D} (e:kj_ tg fc fe (d :: ds) acc ρ = some r)
   (k:∀ ρa,asg tg d ρ = some ρa→∀ ρb b,fc ρa = some (ρb,.ok b)→(b = false→kj_ tg fc fe ds acc ρb = some r)→(b = true→∃ ρd v,fe ρb = some (ρd,.ok v) ∧ kj_ tg fc fe ds (acc ++ [v]) ρd = some r)→P):P:=by
 have e:(match asg tg d ρ with
   | none => none
   | some ρ1 => match fc ρ1 with
     | some (ρ2,.ok true) => (match fe ρ2 with
       | some (ρ3,.ok v) => kj_ tg fc fe ds (acc ++ [v]) ρ3
       | _ => none)
     | some (ρ2,.ok false) => kj_ tg fc fe ds acc ρ2
     | _ => none) = some r:=e
 cases q1:asg tg d ρ with
 | none => rw [q1] at e; cases e
 | some ρa =>
   rw [q1] at e
   dsimp only at e
   cases q2:fc ρa with
   | none => rw [q2] at e; cases e
   | some p =>
     obtain ⟨ρb,x⟩:=p
     rw [q2] at e
     cases x with
     | er n => cases e
     | ok b =>
       refine k ρa q1 ρb b q2 (fun z => ?_) (fun z => ?_)
       · subst z; exact e
       · subst z
         dsimp only at e
         cases q3:fe ρb with
         | none => rw [q3] at e; cases e
         | some p =>
           obtain ⟨ρd,x⟩:=p
           rw [q3] at e
           cases x with
           | er n => cases e
           | ok v => exact ⟨ρd,v,rfl,e⟩
theorem zaj_ {P:Prop} {it:FI} {tg:Tg} {n:Nat} {fc:M Bool} {fe:M D} {ρ ρ':Rho} {r:R D} (e:yf_ it tg n fc fe ρ = some (ρ',r))
   (k1:∀ x,it ρ = some (ρ',.er x)→r = .er x→P)
   (k2:∀ ρ1 ds,it ρ = some (ρ1,.ok ds)→ds.length ≤ sizeLine→above ρ1.length tg = true→∀ ρ2 acc,kj_ tg fc fe ds [] (ρ1 ++ List.replicate n .un) = some (ρ2,acc)→ρ' = ρ2.take ρ1.length→r = .ok (.lst acc)→P):P:=by
 delta yf_ at e
 cases q:it ρ with
 | none => rw [q] at e; cases e
 | some p =>
   obtain ⟨ρ1,x⟩:=p
   rw [q] at e
   cases x with
   | er n => cases e; exact k1 n q rfl
   | ok ds =>
     dsimp only at e
     by_cases hc:(decide (ds.length ≤ sizeLine) && above ρ1.length tg) = true
     · rw [if_pos hc] at e
       rw [Bool.and_eq_true] at hc
       cases q2:kj_ tg fc fe ds [] (ρ1 ++ List.replicate n .un) with
       | none => rw [q2] at e; cases e
       | some p =>
         obtain ⟨ρ2,acc⟩:=p
         rw [q2] at e
         cases e
         exact k2 ρ1 ds q (of_decide_eq_true hc.1) hc.2 ρ2 acc q2 rfl rfl
     · rw [if_neg hc] at e; cases e
end DS
namespace DS
open PySem (Str sizeLine)
theorem wa1_ {ρ:Rho} {s t:Sl} {i:Nat} (h:i = ρ.length):(ρ ++ [s]).set i t = ρ ++ [t]:=by
 subst h; simp
theorem zar_ {ρ:Rho} {s s' t t':Sl} {i j:Nat} (h:i = ρ.length) (h':j = ρ.length + 1):((ρ ++ [s,s']).set i t).set j t' = ρ ++ [t,t']:=by
 subst h; subst h'; simp
theorem ur_ {i:Nat} {c:M Bool} {e:M D} {ρ:Rho} {p:D→Bool} {f:D→D} (hi:i = ρ.length):∀ (ds acc:List D) (s:Sl),
   (∀ d ∈ ds,c (ρ ++ [.sh d]) = some (ρ ++ [.sh d],.ok (p d)))→(∀ d ∈ ds,p d = true→e (ρ ++ [.sh d]) = some (ρ ++ [.sh d],.ok (f d))) →
   ∃ s',kj_ (.nm i) c e ds acc (ρ ++ [s]) = some (ρ ++ [s'],acc ++ (ds.filter p).map f)
 | [],acc,s,_,_ => ⟨s,by simp [kj_]⟩
 | d :: ds,acc,s,hc,he => by
   have h1:=hc d (by simp)
   unfold kj_
   rw [asg,wa1_ hi]
   dsimp only
   rw [h1]
   cases q:p d with
   | true =>
     dsimp only
     rw [he d (by simp) q]
     dsimp only
     obtain ⟨s',r⟩:=ur_ hi ds (acc ++ [f d]) (.sh d) (fun x hx => hc x (by simp [hx])) (fun x hx => he x (by simp [hx]))
     exact ⟨s',by rw [r,List.filter_cons_of_pos q]; simp⟩
   | false =>
     dsimp only
     obtain ⟨s',r⟩:=ur_ hi ds acc (.sh d) (fun x hx => hc x (by simp [hx])) (fun x hx => he x (by simp [hx]))
     exact ⟨s',by rw [r,List.filter_cons_of_neg (by simp [q])]⟩
theorem z2_ {it:FI} {i:Nat} {c:M Bool} {e:M D} {ρ:Rho} {ds:List D} (p:D→Bool) (f:D→D) (hit:it ρ = some (ρ,.ok ds)) (hl:ds.length ≤ sizeLine) (hi:i = ρ.length)
   (hc:∀ d ∈ ds,c (ρ ++ [.sh d]) = some (ρ ++ [.sh d],.ok (p d))) (he:∀ d ∈ ds,p d = true→e (ρ ++ [.sh d]) = some (ρ ++ [.sh d],.ok (f d))) :
   yf_ it (.nm i) 1 c e ρ = some (ρ,.ok (.lst ((ds.filter p).map f))):=by
 obtain ⟨s',r⟩:=ur_ hi ds [] .un hc he
 unfold yf_
 rw [hit]
 dsimp only
 rw [if_pos (by rw [decide_eq_true hl,hi]; simp [above]),show List.replicate 1 Sl.un = [Sl.un] from rfl,r]
 simp
theorem vh_ {it:FI} {i:Nat} {e:M D} {ρ:Rho} {ds:List D} (f:D→D) (hit:it ρ = some (ρ,.ok ds)) (hl:ds.length ≤ sizeLine) (hi:i = ρ.length)
   (he:∀ d ∈ ds,e (ρ ++ [.sh d]) = some (ρ ++ [.sh d],.ok (f d))):yf_ it (.nm i) 1 yes e ρ = some (ρ,.ok (.lst (ds.map f))):=by
 rw [z2_ (fun _ => true) f hit hl hi (fun _ _ => rfl) (fun d hd _ => he d hd),List.filter_eq_self.mpr (fun _ _ => rfl)]
theorem qr_ {i j:Nat} {c:M Bool} {e:M D} {ρ:Rho} {p:D × D→Bool} {f:D × D→D} (hi:i = ρ.length) (hj:j = ρ.length + 1):∀ (ds:List (D × D)) (acc:List D) (s t:Sl),
   (∀ d ∈ ds,c (ρ ++ [.sh d.1,.sh d.2]) = some (ρ ++ [.sh d.1,.sh d.2],.ok (p d)))→(∀ d ∈ ds,p d = true→e (ρ ++ [.sh d.1,.sh d.2]) = some (ρ ++ [.sh d.1,.sh d.2],.ok (f d))) →
   ∃ s' t',kj_ (.tp [i,j]) c e (ds.map fun d => .tup [d.1,d.2]) acc (ρ ++ [s,t]) = some (ρ ++ [s',t'],acc ++ (ds.filter p).map f)
 | [],acc,s,t,_,_ => ⟨s,t,by simp [kj_]⟩
 | d :: ds,acc,s,t,hc,he => by
   have h1:=hc d (by simp)
   rw [List.map_cons]
   unfold kj_
   rw [asg,if_pos (show [d.1,d.2].length = [i,j].length from rfl),show sets [i,j] [d.1,d.2] (ρ ++ [s,t]) = ((ρ ++ [s,t]).set i (.sh d.1)).set j (.sh d.2) from rfl,zar_ hi hj]
   dsimp only
   rw [h1]
   cases q:p d with
   | true =>
     dsimp only
     rw [he d (by simp) q]
     dsimp only
     (refine DX.x2_1 (qr_ hi hj ds (acc ++ [f d]) (.sh d.1) (.sh d.2) (fun x hx => hc x (by simp [hx])) (fun x hx => he x (by simp [hx]))) ?_; rintro s' t' r)
     exact ⟨s',t',by rw [r,List.filter_cons_of_pos q]; simp⟩
   | false =>
     dsimp only
     (refine DX.x2_1 (qr_ hi hj ds acc (.sh d.1) (.sh d.2) (fun x hx => hc x (by simp [hx])) (fun x hx => he x (by simp [hx]))) ?_; rintro s' t' r)
     exact ⟨s',t',by rw [r,List.filter_cons_of_neg (by simp [q])]⟩
theorem yaj_ {it:FI} {i j:Nat} {c:M Bool} {e:M D} {ρ:Rho} {ds:List (D × D)} (p:D × D→Bool) (f:D × D→D) (hit:it ρ = some (ρ,.ok (ds.map fun d => .tup [d.1,d.2]))) (hl:ds.length ≤ sizeLine) (hi:i = ρ.length) (hj:j = ρ.length + 1)
   (hc:∀ d ∈ ds,c (ρ ++ [.sh d.1,.sh d.2]) = some (ρ ++ [.sh d.1,.sh d.2],.ok (p d))) (he:∀ d ∈ ds,p d = true→e (ρ ++ [.sh d.1,.sh d.2]) = some (ρ ++ [.sh d.1,.sh d.2],.ok (f d))) :
   yf_ it (.tp [i,j]) 2 c e ρ = some (ρ,.ok (.lst ((ds.filter p).map f))):=by
 (refine DX.x2_1 (qr_ hi hj ds [] .un .un hc he) ?_; rintro s' t' r)
 unfold yf_
 rw [hit]
 dsimp only
 rw [if_pos (by rw [decide_eq_true (by simpa using hl),hi,hj]; simp [above]),show List.replicate 2 Sl.un = [Sl.un,Sl.un] from rfl,r]
 simp
noncomputable abbrev I (l:List Int):List D:=l.map D.int
theorem kv_:∀ l:List Int,qg_ (I l) = some l
 | [] => rfl
 | x :: l => by simp only [List.map_cons,qg_,kv_ l]; rfl
theorem y2_ {α:Type} (f:α→Bool):∀ l:List α,bools (l.map fun x => .bl (f x)) = some (l.map f)
 | [] => rfl
 | x :: l => by simp only [List.map_cons,bools,y2_ f l]; rfl
theorem vq_ {α:Type} (f:α→Bool) (l:List α):allF [.lst (l.map fun x => .bl (f x))] = some (.bl (l.all f)):=by
 show (bools (l.map fun x => .bl (f x))).map (fun bs => D.bl (bs.all id)) = _
 rw [y2_]; simp
theorem atI_get {α:Type} {xs:List α} {k:Nat} (h:k < xs.length):atI xs (k:Int) = some xs[k]:=by
 unfold atI ixN
 rw [if_pos (by omega),if_pos (by omega)]
 simp [h]
theorem xaj_ {α:Type} {xs:List α} {k:Nat} {x:α} (h:xs[k]? = some x):atI xs (k:Int) = some x:=by
 obtain ⟨h1,h2⟩:=List.getElem?_eq_some_iff.mp h
 rw [atI_get h1,h2]
theorem um_ {α:Type} (x:α) (xs:List α):atI (x :: xs) 0 = some x:=xaj_ (k:=0) (by simp)
theorem ja1_ {α:Type} (x y:α) (xs:List α):atI (x :: y :: xs) 1 = some y:=xaj_ (k:=1) (by simp)
theorem waj_ {i j:Int} (h:-18446744073709551616 < i ∧ i < 18446744073709551616):x7_ i j = true:=by
 unfold x7_
 simp only [Bool.or_eq_true,Bool.and_eq_true,decide_eq_true_eq]
 exact .inl ⟨by omega,by omega⟩
theorem qad_ {i j:Int} (h:-18446744073709551616 < j ∧ j < 18446744073709551616):x7_ i j = true:=by
 unfold x7_
 simp only [Bool.or_eq_true,Bool.and_eq_true,decide_eq_true_eq]
 exact .inr ⟨by omega,by omega⟩
theorem kc_:sizeLine = 16777216:=by unfold sizeLine; rfl
theorem yar_ (a b:List D):eqD (.lst a) (.lst b) = eqDs a b:=rfl
theorem xar_ (a b:List D):eqD (.tup a) (.tup b) = eqDs a b:=rfl
theorem xaw_ (x y:D) (a b:List D):eqDs (x :: a) (y :: b) = (eqD x y && eqDs a b):=rfl
mutual
theorem qm_:∀ (d:D),(dep d).isSome = true→eqD d d = true
 | .non,_ => rfl
 | .bl b,_ => by show (b == b) = true; simp
 | .int b,_ => by show (b == b) = true; simp
 | .str b,_ => by show (b == b) = true; simp
 | .lst xs,h => by
   rw [yar_]
   refine zs_ xs ?_
   rw [dep] at h
   simpa using h
 | .tup xs,h => by
   rw [xar_]
   refine zs_ xs ?_
   rw [dep] at h
   simpa using h
 | .set _,h => by simp [dep] at h
 | .exc _,h => by simp [dep] at h
theorem zs_:∀ (ds:List D),(deps ds).isSome = true→eqDs ds ds = true
 | [],_ => rfl
 | d :: ds,h => by
   rw [xaw_]
   rw [deps] at h
   cases h1:dep d with
   | none => simp [h1] at h
   | some a =>
     cases h2:deps ds with
     | none => simp [h1,h2] at h
     | some b => rw [qm_ d (by simp [h1]),zs_ ds (by simp [h2])]; rfl
end
theorem j7_ {k:Nat}:∀ {ds:List D},(∀ d ∈ ds,∃ n,dep d = some n ∧ n ≤ k)→∃ n,deps ds = some n ∧ n ≤ k
 | [],_ => ⟨0,by simp [deps],by omega⟩
 | d :: ds,h => by
   (refine DX.x1_2 (h d (by simp)) ?_; rintro a h1 h2)
   (refine DX.x1_2 (j7_ (ds:=ds) fun x hx => h x (by simp [hx])) ?_; rintro b h3 h4)
   exact ⟨max a b,by simp [deps,h1,h3],by omega⟩
theorem k7_ {k:Nat} {ds:List D} (h:∀ d ∈ ds,∃ n,dep d = some n ∧ n ≤ k):∃ n,dep (.lst ds) = some n ∧ n ≤ k + 1:=by
 (refine DX.x1_2 (j7_ h) ?_; rintro n h1 h2)
 exact ⟨n + 1,by simp [dep,h1],by omega⟩
theorem jaj_ {k:Nat} {ds:List D} (h:∀ d ∈ ds,∃ n,dep d = some n ∧ n ≤ k):∃ n,dep (.tup ds) = some n ∧ n ≤ k + 1:=by
 (refine DX.x1_2 (j7_ h) ?_; rintro n h1 h2)
 exact ⟨n + 1,by simp [dep,h1],by omega⟩
theorem kf_ {d:D} {k:Nat} (h:∃ n,dep d = some n ∧ n ≤ k) (hk:k ≤ 20):eqOk d = true:=by
 (refine DX.x1_2 h ?_; try clear h; rintro n h1 h2)
 unfold eqOk
 rw [h1]
 simp; omega
end DS
namespace DS
open PySem (Str sizeLine)
section
variable {α β:Type}
theorem waw_ (a:α) (ρ:Rho):ret a ρ = some (ρ,.ok a):=rfl
theorem jaw_ (a:α) (ρ:Rho):lft (some a) ρ = some (ρ,.ok a):=rfl
theorem kaw_ (m:M α) (f:α→M β) (ρ:Rho):bnd m f ρ = (match m ρ with
 | none => none
 | some (ρ',.er n) => some (ρ',.er n)
 | some (ρ',.ok a) => f a ρ'):=rfl
end
section
variable (a b c:M D) (x y:M Bool) (as:M (List D)) (ρ:Rho)
theorem ybb_ (i:Nat):vr i ρ = (match ρ[i]? with
 | some (.sh d) => some (ρ,.ok d)
 | some (.ow xs) => some (ρ.set i (.sh (.lst xs)),.ok (.lst xs))
 | _ => none):=rfl
theorem xbb_ (d:D):cst d ρ = some (ρ,.ok d):=rfl
theorem wbb_ (f:D→Option D):op1 f a ρ = bnd a (fun x => lft (f x)) ρ:=rfl
theorem vaw_ (f:D→D→Option D):op2 f a b ρ = bnd a (fun x => bnd b fun y => lft (f x y)) ρ:=rfl
theorem jbb_ (f:D→D→Option D):opL f a b ρ = bnd a (fun x => bnd (lft (isL x)) fun _ => bnd b fun y => lft (f x y)) ρ:=rfl
theorem kaj_:nilA ρ = some (ρ,.ok []):=rfl
theorem zaa_:ya_ a as ρ = bnd a (fun x => bnd as fun xs => ret (x :: xs)) ρ:=rfl
theorem ka1_:tupE as ρ = bnd as (fun xs => lft ((fits xs).map .tup)) ρ:=rfl
theorem va1_:lstE as ρ = bnd as (fun xs => lft ((fits xs).map .lst)) ρ:=rfl
theorem kbb_ (F:List D→Option (R D)):cal F as ρ = bnd as (fun xs ρ => match F xs with
 | none => none
 | some r => some (ρ,r)) ρ:=rfl
theorem uaw_ (f:List D→Option D):blt f as ρ = bnd as (fun xs => lft (f xs)) ρ:=rfl
theorem qaw_:tst a ρ = bnd a (fun x => lft (ko_ x)) ρ:=rfl
theorem vbb_:tsB a ρ = bnd a (fun x => lft (asB x)) ρ:=rfl
theorem ua1_:andT x y ρ = bnd x (fun z => if z = true then y else ret false) ρ:=rfl
theorem ubb_:orT x y ρ = bnd x (fun z => if z = true then ret true else y) ρ:=rfl
theorem qa1_:notT x ρ = bnd x (fun z => ret (!z)) ρ:=rfl
theorem za2_:andV a b ρ = bnd (tsB a) (fun z => if z = true then b else ret (.bl false)) ρ:=rfl
theorem qbb_:orV a b ρ = bnd (tsB a) (fun z => if z = true then ret (.bl true) else b) ρ:=rfl
theorem zbc_:ifE x a b ρ = bnd x (fun z => if z = true then a else b) ρ:=rfl
theorem ybc_ (f g:D→D→Option D):chn f g a b c ρ = bnd a (fun x => bnd b fun y => bnd (lft ((f x y).bind asB)) fun k => if k = true then bnd c fun z => lft (g y z) else ret (.bl false)) ρ:=rfl
theorem war_:part none ρ = some (ρ,.ok none):=rfl
theorem jar_:part (some a) ρ = bnd a (fun x => lft ((asI x).map some)) ρ:=rfl
theorem xbc_ (lo hi:Option (M D)):slE a lo hi ρ = bnd a (fun x => bnd (part lo) fun l => bnd (part hi) fun h => lft (slD x l h)) ρ:=rfl
theorem wbc_:itE a ρ = bnd a (fun x => lft (ja_ x)) ρ:=rfl
theorem ya2_:itR1 as ρ = bnd as (fun xs => lft (rg1 xs)) ρ:=rfl
theorem xa2_:itR2 as ρ = bnd as (fun xs => lft (rg2 xs)) ρ:=rfl
theorem jbc_:yes ρ = some (ρ,.ok true):=rfl
theorem kbc_ {α:Type} (p:Prop) [Decidable p] (m n:M α):(if p then m else n) ρ = if p then m ρ else n ρ:=by split <;> rfl
end
section
variable (a:M D) (x:M Bool) (as:M (List D)) (s t:FS) (ρ:Rho)
theorem vbc_:sNx ρ = some (ρ,.nx):=rfl
theorem wa2_:sq s t ρ = (match s ρ with
 | some (ρ',.nx) => t ρ'
 | r => r):=rfl
theorem ja2_ (f:D→FS):sx a f ρ = (match a ρ with
 | none => none
 | some (ρ',.er n) => some (ρ',.er n)
 | some (ρ',.ok d) => f d ρ'):=rfl
theorem vbj_:sE a ρ = sx a (fun _ ρ => some (ρ,.nx)) ρ:=rfl
theorem ubc_:sR a ρ = sx a (fun d ρ => some (ρ,.rt d)) ρ:=rfl
theorem qbc_ (tg:Tg):sA tg a ρ = sx a (fun d ρ => match asg tg d ρ with
 | some ρ' => some (ρ',.nx)
 | none => none) ρ:=rfl
theorem ubj_ (i:Nat):sO i as ρ = (match as ρ with
 | none => none
 | some (ρ',.er n) => some (ρ',.er n)
 | some (ρ',.ok xs) => if xs.length ≤ sizeLine then some (ρ'.set i (.ow xs),.nx) else none):=rfl
theorem qbj_ (i:Nat):sP i a ρ = (match ρ[i]? with
 | some (.ow _) => (match a ρ with
   | none => none
   | some (ρ',.er n) => some (ρ',.er n)
   | some (ρ',.ok d) => match ρ'[i]? with
     | some (.ow xs) => if xs.length < sizeLine then some (ρ'.set i (.ow (xs ++ [d])),.nx) else none
     | _ => none)
 | _ => none):=rfl
theorem zbk_ (i:Nat):sX i a ρ = (match ρ[i]? with
 | some (.ow _) => (match a ρ with
   | none => none
   | some (ρ',.er n) => some (ρ',.er n)
   | some (ρ',.ok (.lst ys)) => (match ρ'[i]? with
     | some (.ow xs) => if xs.length + ys.length ≤ sizeLine then some (ρ'.set i (.ow (xs ++ ys)),.nx) else none
     | _ => none)
   | _ => none)
 | _ => none):=rfl
theorem kar_:sI x s t ρ = (match x ρ with
 | none => none
 | some (ρ',.er n) => some (ρ',.er n)
 | some (ρ',.ok true) => s ρ'
 | some (ρ',.ok false) => t ρ'):=rfl
theorem ybk_ (n:String):sT n ρ = some (ρ,.er n):=rfl
theorem xbk_ (it:FI) (tg:Tg):sF it tg s ρ = (match it ρ with
 | none => none
 | some (ρ1,.er n) => some (ρ1,.er n)
 | some (ρ1,.ok ds) => forL tg s ds ρ1):=rfl
theorem ka2_ (cls:List String) (sup:String→Bool) (i:Nat):sTry cls sup i s t ρ = (match s ρ with
 | some (ρ1,.er n) => if (cls.contains n && sup n) = true then (match t (ρ1.set i (.sh (.exc n))) with
   | some (_,.er _) => none
   | some (ρ2,o) => some (ρ2.set i .un,o)
   | none => none) else none
 | r => r):=rfl
end
theorem vaj_ {ps N:Nat} {b:FS} {ds:List D} (h:ds.length = ps):run ps N b ds = outc (b (ds.map .sh ++ List.replicate (N - ps) .un)):=by unfold run; rw [if_pos h]
theorem vi_ {N:Nat} {b:FS} {x:D}:run 1 N b [x] = outc (b (.sh x :: List.replicate (N - 1) .un)):=vaj_ rfl
theorem ym_ {N:Nat} {b:FS} {x y:D}:run 2 N b [x,y] = outc (b (.sh x :: .sh y :: List.replicate (N - 2) .un)):=vaj_ rfl
theorem va2_ {N:Nat} {b:FS} {x y z:D}:run 3 N b [x,y,z] = outc (b (.sh x :: .sh y :: .sh z :: List.replicate (N - 3) .un)):=vaj_ rfl
theorem addI (i j:Int):addD (.int i) (.int j) = some (.int (i + j)):=rfl
theorem subI (i j:Int):subD (.int i) (.int j) = some (.int (i - j)):=rfl
theorem negI (i:Int):negD (.int i) = some (.int (-i)):=rfl
theorem mulI {i j:Int} (h:x7_ i j = true):mulD (.int i) (.int j) = some (.int (i * j)):=if_pos h
theorem mulK (i:Int) {j:Int} (h:(decide (-18446744073709551616 < j) && decide (j < 18446744073709551616)) = true):mulD (.int i) (.int j) = some (.int (i * j)):=mulI (qad_ (by simpa using h))
theorem zbd_ {i:Int} (j:Int) (h:(decide (-18446744073709551616 < i) && decide (i < 18446744073709551616)) = true):mulD (.int i) (.int j) = some (.int (i * j)):=mulI (waj_ (by simpa using h))
theorem fdvI (i:Int) {j:Int} (h:(decide (0 < j) && decide (j < 1073741824)) = true):fdvD (.int i) (.int j) = some (.int (i / j)):=if_pos h
theorem modI (i:Int) {j:Int} (h:0 < j):modD (.int i) (.int j) = some (.int (i % j)):=if_pos h
theorem eqI (i j:Int):eqF (.int i) (.int j) = some (.bl (decide (i = j))):=rfl
theorem neI (i j:Int):neF (.int i) (.int j) = some (.bl (!decide (i = j))):=rfl
theorem ltI (i j:Int):ltF (.int i) (.int j) = some (.bl (decide (i < j))):=rfl
theorem leI (i j:Int):leF (.int i) (.int j) = some (.bl (decide (i ≤ j))):=rfl
theorem gtI (i j:Int):gtF (.int i) (.int j) = some (.bl (decide (j < i))):=rfl
theorem ltT (a b:List Int):ltF (.tup (I a)) (.tup (I b)) = some (.bl (lexLt a b)):=by
 show (match qg_ (I a),qg_ (I b) with | some x,some y => some (D.bl (lexLt x y)) | _,_ => none) = _
 rw [kv_,kv_]
theorem ixL (xs:List D) (i:Int):ixD (.lst xs) (.int i) = atI xs i:=rfl
theorem ixT (xs:List D) (i:Int):ixD (.tup xs) (.int i) = atI xs i:=rfl
theorem lenL (xs:List D):lenF [.lst xs] = some (.int xs.length):=rfl
theorem lenT (xs:List D):lenF [.tup xs] = some (.int xs.length):=rfl
theorem trT (xs:List D):ko_ (.tup xs) = some (!xs.isEmpty):=rfl
theorem trN:ko_ .non = some false:=rfl
theorem trL (xs:List D):ko_ (.lst xs) = some (!xs.isEmpty):=rfl
theorem trB (b:Bool):ko_ (.bl b) = some b:=rfl
theorem asb (b:Bool):asB (.bl b) = some b:=rfl
theorem itmL (xs:List D):ja_ (.lst xs) = some xs:=rfl
theorem itmT (xs:List D):ja_ (.tup xs) = some xs:=rfl
theorem wbk_:fits [] = some []:=rfl
theorem jbk_ (a:D):fits [a] = some [a]:=rfl
theorem kbk_ (a b:D):fits [a,b] = some [a,b]:=rfl
theorem vbk_ (a b c:D):fits [a,b,c] = some [a,b,c]:=rfl
theorem ubk_ (a b c d:D):fits [a,b,c,d] = some [a,b,c,d]:=rfl
theorem qbk_ (a b c d e:D):fits [a,b,c,d,e] = some [a,b,c,d,e]:=rfl
theorem zbl_ (a b c d e f:D):fits [a,b,c,d,e,f] = some [a,b,c,d,e,f]:=rfl
theorem x2_ {j:Int} (h0:0 ≤ j) (h:j ≤ 1000000000):rg1 [.int j] = some (rng 0 j):=by
 exact if_pos (zk_.mpr (by omega))
theorem ybd_ {i j:Int} (h0:0 ≤ i) (h:i ≤ 1000000000) (h1:0 ≤ j) (h2:j ≤ 1000000000):rg2 [.int i,.int j] = some (rng i j):=by
 refine if_pos ?_; rw [Bool.and_eq_true]; exact ⟨zk_.mpr (by omega),zk_.mpr (by omega)⟩
theorem ua2_:isN .non = some (.bl true):=rfl
theorem uaj_ {i:Nat} {b:FS} {d:D} {ds:List D} {ρ:Rho}:forL (.nm i) b (d :: ds) ρ = (match b (ρ.set i (.sh d)) with | some (ρ2,.nx) => forL (.nm i) b ds ρ2 | some (ρ2,.ct) => forL (.nm i) b ds ρ2 | some (ρ2,.bk) => some (ρ2,.nx) | r => r):=rfl
theorem yd_ {i:Nat} {b:FS} {d:D} {ds:List D} {ρ ρ2:Rho} (h:b (ρ.set i (.sh d)) = some (ρ2,.nx)):forL (.nm i) b (d :: ds) ρ = forL (.nm i) b ds ρ2:=by
 rw [uaj_,h]
theorem yy_ {i:Nat} {b:FS} {d:D} {ds:List D} {ρ ρ2:Rho} {v:D} (h:b (ρ.set i (.sh d)) = some (ρ2,.rt v)):forL (.nm i) b (d :: ds) ρ = some (ρ2,.rt v):=by
 rw [uaj_,h]
theorem qa2_ {i:Nat} {b:FS} {d:D} {ds:List D} {ρ ρ2:Rho} {v:String} (h:b (ρ.set i (.sh d)) = some (ρ2,.er v)):forL (.nm i) b (d :: ds) ρ = some (ρ2,.er v):=by
 rw [uaj_,h]
theorem zn_ {tg:Tg} {b:FS} {ρ:Rho}:forL tg b [] ρ = some (ρ,.nx):=rfl
theorem xy_ {s t:FS} {ρ ρ':Rho} (h:s ρ = some (ρ',.nx)):sq s t ρ = t ρ':=by rw [wa2_,h]
theorem ybl_ {a:M D} {ρ ρ':Rho} {i:Nat} {d:D} (h:a ρ = some (ρ',.ok d)):sA (.nm i) a ρ = some (ρ'.set i (.sh d),.nx):=by rw [qbc_,ja2_,h]; rfl
theorem sI_t {c:M Bool} {s t:FS} {ρ ρ':Rho} (h:c ρ = some (ρ',.ok true)):sI c s t ρ = s ρ':=by rw [kar_,h]
theorem sI_f {c:M Bool} {s t:FS} {ρ ρ':Rho} (h:c ρ = some (ρ',.ok false)):sI c s t ρ = t ρ':=by rw [kar_,h]
theorem xbl_ (i j:Nat) (a b:D) (ρ:Rho):sets [i,j] [a,b] ρ = (ρ.set i (.sh a)).set j (.sh b):=rfl
theorem za3_ (i:Nat) (d:D) (ρ:Rho):asg (.nm i) d ρ = some (ρ.set i (.sh d)):=rfl
theorem ya3_ (is:List Nat) (ds:List D) (ρ:Rho):asg (.tp is) (.tup ds) ρ = if ds.length = is.length then some (sets is ds ρ) else none:=rfl
theorem xa3_ (ρ:Rho) (d:D):outc (some (ρ,.rt d)) = some (.ok d):=rfl
theorem wa3_ (ρ:Rho):outc (some (ρ,.nx)) = some (.ok .non):=rfl
theorem ja3_ (ρ:Rho) (n:String):outc (some (ρ,.er n)) = some (.er n):=rfl
theorem var_ {α:Type} (a b:α):(if True then a else b) = a:=rfl
end DS
set_option hygiene false in
local macro_rules | `(tactic| simp! only [$as,*] $[$l]?) => do let rs ← ("DS.waw_ DS.jaw_ DS.kaw_ DS.ybb_ DS.xbb_ DS.wbb_ DS.vaw_ DS.jbb_ DS.kaj_ DS.zaa_ DS.ka1_ DS.va1_ DS.kbb_ DS.uaw_ DS.qaw_ DS.vbb_ DS.ua1_ DS.ubb_ DS.qa1_ DS.za2_ DS.qbb_ DS.zbc_ DS.ybc_ DS.war_ DS.jar_ DS.xbc_ DS.wbc_ DS.ya2_ DS.xa2_ DS.jbc_ DS.kbc_ DS.vbc_ DS.wa2_ DS.ja2_ DS.vbj_ DS.ubc_ DS.qbc_ DS.ubj_ DS.qbj_ DS.zbk_ DS.kar_ DS.ybk_ DS.xbk_ DS.ka2_ List.getElem?_cons_zero List.getElem?_cons_succ List.set_cons_zero List.set_cons_succ DS.za3_ DS.ya3_ DS.xa3_ DS.wa3_ DS.ja3_ Option.map_some Option.bind_some List.map_cons List.map_nil List.cons_append List.nil_append List.replicate_zero List.replicate_succ DS.addI DS.subI DS.negI DS.eqI DS.neI DS.ltI DS.leI DS.gtI DS.ltT DS.ixL DS.ixT DS.lenL DS.lenT DS.trL DS.trT DS.trN DS.trB DS.asb DS.itmL DS.itmT DS.ua2_ DS.um_ DS.ja1_ Nat.zero_le DS.var_ List.length_nil DS.xbl_ Nat.reduceSub if_true DS.wbk_ DS.jbk_ DS.kbk_ DS.vbk_ DS.ubk_ DS.qbk_ DS.zbl_ decide_true decide_false Bool.false_eq_true if_false Bool.not_true Bool.not_false".splitOn " ").toArray.mapM fun x => `(Lean.Parser.Tactic.simpLemma| $(Lean.mkIdent x.toName):term); `(tactic| simp only [$rs,*, $as,*] $[$l]?)
namespace DS
end DS
namespace DS
open PySem (Str sizeLine)
theorem w2_ {i:Nat} {b:FS} (P:Rho→Prop) (g:D→Option D):∀ (ds:List D) (ρ:Rho),
   (∀ d ∈ ds,∀ ρ,P ρ→(∀ v,g d = some v→∃ ρ',b (ρ.set i (.sh d)) = some (ρ',.rt v)) ∧ (g d = none→∃ ρ',P ρ' ∧ b (ρ.set i (.sh d)) = some (ρ',.nx)))→P ρ →
   (∀ v,ds.findSome? g = some v→∃ ρ',forL (.nm i) b ds ρ = some (ρ',.rt v)) ∧ (ds.findSome? g = none→∃ ρ',P ρ' ∧ forL (.nm i) b ds ρ = some (ρ',.nx))
 | [],ρ,_,h => ⟨fun v e => (nomatch e),fun _ => ⟨ρ,h,zn_⟩⟩
 | d :: ds,ρ,hs,h => by
   obtain ⟨h1,h2⟩:=hs d (by simp) ρ h
   cases q:g d with
   | some v =>
     obtain ⟨ρ',e⟩:=h1 v q
     refine ⟨fun u hu => ⟨ρ',?_⟩,fun hn => ?_⟩
     · rw [List.findSome?_cons,q] at hu
       cases hu
       exact yy_ e
     · rw [List.findSome?_cons,q] at hn; cases hn
   | none =>
     obtain ⟨ρ',hp,e⟩:=h2 q
     obtain ⟨r1,r2⟩:=w2_ P g ds ρ' (fun x hx => hs x (by simp [hx])) hp
     rw [List.findSome?_cons,q,yd_ e]
     exact ⟨r1,r2⟩
end DS
namespace L2
open PySem PySem.Spec PyProof.Rows
open DS (D Sl Rho R M FS O Tg)
set_option genInjectivity false in
structure Rc where
 K:PySem.W.Frag
 w:World
 ad:String→Addr
noncomputable def SetO (w:World) (a:Addr) (p:Nat→Bool):HO:=.ext fun h => SetPure.za1_ w h a p
mutual
noncomputable def Rep (r:Rc) (G:Hp):D→V→Prop
 | .non,v => v = .non
 | .bl b,v => v = .bl b
 | .int i,v => v = .int i
 | .str x,v => v = .str x
 | .lst ds,v => ∃ a vs,v = .ref a ∧ SqL r.K G a vs ∧ vs.length ≤ sizeLine ∧ Reps r G ds vs
 | .tup ds,v => ∃ a vs,v = .ref a ∧ SqT r.K G a vs ∧ vs.length ≤ sizeLine ∧ Reps r G ds vs
 | .set xs,v => ∃ a p,v = .ref a ∧ G a = some (SetO r.w a p) ∧ xs = (SetPure.pl p).map Int.ofNat
 | .exc n,v => ∃ a,v = .ref a ∧ G a = some (ExcO a (.ref (r.ad n)))
noncomputable def Reps (r:Rc) (G:Hp):List D→List V→Prop
 | [],vs => vs = []
 | d :: ds,vs => ∃ v t,vs = v :: t ∧ Rep r G d v ∧ Reps r G ds t
end
theorem Same.seqT {K:PySem.W.Frag} {H H':Hp} {a:Addr} {xs:List V} (e:Same H H') (h:SqT K H a xs):SqT K H' a xs:=by
 rcases h with (h | ⟨o,h⟩) | h
 · exact .inl (.inl (e _ _ h))
 · exact .inl (.inr ⟨o,e _ _ h⟩)
 · exact .inr h
section
variable {r:Rc} {G G' H:Hp}
mutual
theorem Rep.mono (s:Same G G'):∀ {d:D} {v:V},Rep r G d v→Rep r G' d v
 | .non,_,h => by rw [Rep] at h ⊢; exact h
 | .bl _,_,h => by rw [Rep] at h ⊢; exact h
 | .int _,_,h => by rw [Rep] at h ⊢; exact h
 | .str _,_,h => by rw [Rep] at h ⊢; exact h
 | .lst ds,_,h => by
   rw [Rep] at h ⊢
   (refine DX.x2_4 h ?_; try clear h; rintro a vs e q l t)
   exact ⟨a,vs,e,s.seq q,l,Reps.mono s t⟩
 | .tup ds,_,h => by
   rw [Rep] at h ⊢
   (refine DX.x2_4 h ?_; try clear h; rintro a vs e q l t)
   exact ⟨a,vs,e,s.seqT q,l,Reps.mono s t⟩
 | .set _,_,h => by
   rw [Rep] at h ⊢
   (refine DX.x2_3 h ?_; try clear h; rintro a p e q z)
   exact ⟨a,p,e,s _ _ q,z⟩
 | .exc _,_,h => by
   rw [Rep] at h ⊢
   (refine DX.x1_2 h ?_; try clear h; rintro a e q)
   exact ⟨a,e,s _ _ q⟩
theorem Reps.mono (s:Same G G'):∀ {ds:List D} {vs:List V},Reps r G ds vs→Reps r G' ds vs
 | [],_,h => by rw [Reps] at h ⊢; exact h
 | d :: ds,_,h => by
   rw [Reps] at h ⊢
   (refine DX.x2_3 h ?_; try clear h; rintro v t e q z)
   exact ⟨v,t,e,Rep.mono s q,Reps.mono s z⟩
end
theorem Reps.nil:Reps r G [] []:=by rw [Reps]
theorem Reps.nil_inv {vs:List V} (h:Reps r G [] vs):vs = []:=by rw [Reps] at h; exact h
theorem Reps.cons {d:D} {ds:List D} {v:V} {vs:List V} (h:Rep r G d v) (t:Reps r G ds vs):Reps r G (d :: ds) (v :: vs):=by
 rw [Reps]; exact ⟨v,vs,rfl,h,t⟩
theorem Reps.cons_inv {d:D} {ds:List D} {vs:List V} (h:Reps r G (d :: ds) vs):∃ v t,vs = v :: t ∧ Rep r G d v ∧ Reps r G ds t:=by
 rw [Reps] at h; exact h
theorem Reps.length:∀ {ds:List D} {vs:List V},Reps r G ds vs→ds.length = vs.length
 | [],_,h => by rw [h.nil_inv]; rfl
 | d :: ds,_,h => by
   (refine DX.x2_3 h.cons_inv ?_; rintro v t rfl _ z)
   simp [Reps.length z]
theorem Reps.get:∀ {ds:List D} {vs:List V} {i:Nat} {d:D},Reps r G ds vs→ds[i]? = some d→∃ v,vs[i]? = some v ∧ Rep r G d v
 | [],_,_,_,_,e => by simp at e
 | d :: ds,_,0,_,h,e => by
   (refine DX.x2_3 h.cons_inv ?_; rintro v t rfl q z)
   simp at e
   subst e
   exact ⟨v,rfl,q⟩
 | d :: ds,_,i + 1,x,h,e => by
   (refine DX.x2_3 h.cons_inv ?_; rintro v t rfl q z)
   (refine DX.x1_2 (Reps.get (i:=i) (d:=x) z (by simpa using e)) ?_; rintro u h1 h2)
   exact ⟨u,by simpa using h1,h2⟩
theorem Reps.get_of {ds:List D} {vs:List V} {i:Nat} {v:V} (h:Reps r G ds vs) (e:vs[i]? = some v):∃ d,ds[i]? = some d ∧ Rep r G d v:=by
 have hl:=h.length
 have hi:i < ds.length:=by have:=(List.getElem?_eq_some_iff.mp e).1; omega
 (refine DX.x1_2 (h.get (i:=i) (d:=ds[i]) (by simp [hi])) ?_; rintro u h1 h2)
 rw [e] at h1
 cases h1
 exact ⟨ds[i],by simp [hi],h2⟩
theorem Reps.append:∀ {ds es:List D} {vs us:List V},Reps r G ds vs→Reps r G es us→Reps r G (ds ++ es) (vs ++ us)
 | [],_,_,_,h,k => by rw [h.nil_inv]; exact k
 | d :: ds,_,_,_,h,k => by
   (refine DX.x2_3 h.cons_inv ?_; rintro v t rfl q z)
   exact .cons q (Reps.append z k)
theorem Reps.snoc {ds:List D} {vs:List V} {d:D} {v:V} (h:Reps r G ds vs) (k:Rep r G d v):Reps r G (ds ++ [d]) (vs ++ [v]):=h.append (.cons k .nil)
theorem Reps.take:∀ {ds:List D} {vs:List V} (n:Nat),Reps r G ds vs→Reps r G (ds.take n) (vs.take n)
 | _,_,0,_ => by simp; exact .nil
 | [],_,n + 1,h => by rw [h.nil_inv]; simp; exact .nil
 | d :: ds,_,n + 1,h => by
   (refine DX.x2_3 h.cons_inv ?_; rintro v t rfl q z)
   exact .cons q (Reps.take n z)
theorem Reps.drop:∀ {ds:List D} {vs:List V} (n:Nat),Reps r G ds vs→Reps r G (ds.drop n) (vs.drop n)
 | _,_,0,h => h
 | [],_,n + 1,h => by rw [h.nil_inv]; simp; exact .nil
 | d :: ds,_,n + 1,h => by
   (refine DX.x2_3 h.cons_inv ?_; rintro v t rfl q z)
   exact Reps.drop n z
theorem Reps.reverse:∀ {ds:List D} {vs:List V},Reps r G ds vs→Reps r G ds.reverse vs.reverse
 | [],_,h => by rw [h.nil_inv]; exact .nil
 | d :: ds,_,h => by
   (refine DX.x2_3 h.cons_inv ?_; rintro v t rfl q z)
   simp only [List.reverse_cons]
   exact (Reps.reverse z).snoc q
theorem Reps.flat {ds:List D} {vs:List V} (h:Reps r G ds vs):∀ k:Nat,Reps r G (List.replicate k ds).flatten (List.replicate k vs).flatten
 | 0 => by simp; exact .nil
 | k + 1 => by
   rw [List.replicate_succ,List.replicate_succ,List.flatten_cons,List.flatten_cons]
   exact h.append (Reps.flat h k)
theorem Reps.ints:∀ {ds:List D} {vs:List V} {ns:List Int},Reps r G ds vs→DS.qg_ ds = some ns→vs = ns.map V.int
 | [],_,_,h,e => by rw [h.nil_inv]; rw [DS.qg_] at e; cases e; rfl
 | .int i :: ds,_,ns,h,e => by
   (refine DX.x2_3 h.cons_inv ?_; rintro v t rfl q z)
   rw [DS.qg_] at e
   cases e2:DS.qg_ ds with
   | none => rw [e2] at e; cases e
   | some ms =>
     rw [e2] at e
     cases e
     rw [Rep] at q
     rw [q,Reps.ints z e2]
     rfl
 | .non :: _,_,_,_,e => by simp [DS.qg_] at e
 | .bl _ :: _,_,_,_,e => by simp [DS.qg_] at e
 | .str _ :: _,_,_,_,e => by simp [DS.qg_] at e
 | .lst _ :: _,_,_,_,e => by simp [DS.qg_] at e
 | .tup _ :: _,_,_,_,e => by simp [DS.qg_] at e
 | .set _ :: _,_,_,_,e => by simp [DS.qg_] at e
 | .exc _ :: _,_,_,_,e => by simp [DS.qg_] at e
theorem Reps.ofInts:∀ (ns:List Int),Reps r G (ns.map D.int) (ns.map V.int)
 | [] => .nil
 | n :: ns => .cons (by rw [Rep]) (Reps.ofInts ns)
theorem Reps.bools:∀ {ds:List D} {vs:List V} {bs:List Bool},Reps r G ds vs→DS.bools ds = some bs→vs = bs.map V.bl
 | [],_,_,h,e => by rw [h.nil_inv]; rw [DS.bools] at e; cases e; rfl
 | .bl i :: ds,_,ns,h,e => by
   (refine DX.x2_3 h.cons_inv ?_; rintro v t rfl q z)
   rw [DS.bools] at e
   cases e2:DS.bools ds with
   | none => rw [e2] at e; cases e
   | some ms =>
     rw [e2] at e
     cases e
     rw [Rep] at q
     rw [q,Reps.bools z e2]
     rfl
 | .non :: _,_,_,_,e => by simp [DS.bools] at e
 | .int _ :: _,_,_,_,e => by simp [DS.bools] at e
 | .str _ :: _,_,_,_,e => by simp [DS.bools] at e
 | .lst _ :: _,_,_,_,e => by simp [DS.bools] at e
 | .tup _ :: _,_,_,_,e => by simp [DS.bools] at e
 | .set _ :: _,_,_,_,e => by simp [DS.bools] at e
 | .exc _ :: _,_,_,_,e => by simp [DS.bools] at e
theorem Reps.atI {ds:List D} {vs:List V} {i:Int} {d:D} (h:Reps r G ds vs) (e:DS.atI ds i = some d):∃ v,L2.atI vs i = some v ∧ Rep r G d v:=by
 unfold DS.atI at e
 unfold L2.atI
 rw [← h.length]
 rw [show DS.ixN ds.length i = L2.ixN ds.length i from rfl] at e
 cases q:L2.ixN ds.length i with
 | none => rw [q] at e; cases e
 | some j =>
   rw [q] at e
   exact h.get e
theorem Reps.cut {ds:List D} {vs:List V} (h:Reps r G ds vs) (lo hi:Option Int):Reps r G (DS.cut ds lo hi) (cutV vs lo hi):=by
 unfold DS.cut cutV
 have e:∀ n d o,DS.sIx n d o = HT.sIx n d o:=fun n d o => by
   cases o with
   | none => rfl
   | some v =>
     show (if v < 0 then (max (v + (n:Int)) 0).toNat else (min v (n:Int)).toNat) = (if v < 0 then (v + (n:Int)).toNat else min v.toNat n)
     split <;> omega
 rw [e,e,← h.length]
 exact (h.drop _).take _
structure Ext (G H G' H':Hp):Prop where
 same:Same H H'
 view:Same G G'
 sub:Same G' H'
 new:∀ b o,G' b = some o→G b = some o ∨ H b = none
theorem Ext.refl (s:Same G H):Ext G H G H:=⟨Same.refl _,Same.refl _,s,fun _ _ e => .inl e⟩
theorem Ext.trans {G1 H1 G2 H2:Hp} (a:Ext G H G1 H1) (b:Ext G1 H1 G2 H2):Ext G H G2 H2 :=
 ⟨a.same.trans b.same,a.view.trans b.view,b.sub,fun x o e => by
   rcases b.new x o e with q | q
   · exact a.new x o q
   · exact .inr (a.same.free q)⟩
theorem Same.upd {p:Addr} {o:HO} (h:H p = none):Same H (upd H p o):=fun b u e => by
 rw [zb_ (wb_ e h)]; exact e
theorem Ext.lay {p:Addr} {o:HO} (s:Same G H) (h:H p = none):Ext G H (upd G p o) (upd H p o):=by
 have hg:G p = none:=s.free h
 refine ⟨Same.upd h,Same.upd hg,fun b u e => ?_,fun b u e => ?_⟩
 · by_cases hb:b = p
   · subst hb; rw [yb_] at e ⊢; exact e
   · rw [zb_ hb] at e ⊢; exact s b u e
 · by_cases hb:b = p
   · subst hb; exact .inr h
   · rw [zb_ hb] at e; exact .inl e
end
set_option genInjectivity false in
structure Db where
 r:Rc
 H₀:Hp
 G₀:Hp
structure SR (c:Db) (ρ:Rho) (σ:St) (H G:Hp) (hs:List (Addr × List V)) (ts:List D) (us:List V):Prop where
 ext:Ext c.G₀ c.H₀ G H
 ln:ρ.length = σ.length
 sh:∀ (i:Nat) (d:D),ρ[i]? = some (Sl.sh d)→∃ v,σ[i]? = some (some v) ∧ Rep c.r G d v
 ow:∀ (i:Nat) (ds:List D),ρ[i]? = some (Sl.ow ds)→∃ (a:Addr) (vs:List V),σ[i]? = some (some (V.ref a)) ∧ H a = some (.lst vs) ∧ G a = none ∧ c.H₀ a = none ∧ vs.length ≤ sizeLine ∧ Reps c.r G ds vs ∧ ∀ p ∈ hs,p.1 ≠ a
 inj:∀ (i j:Nat) (ds es:List D) (a:Addr),ρ[i]? = some (Sl.ow ds)→ρ[j]? = some (Sl.ow es)→σ[i]? = some (some (V.ref a))→σ[j]? = some (some (V.ref a))→i = j
 hd:∀ p ∈ hs,H p.1 = some (.lst p.2) ∧ G p.1 = none ∧ c.H₀ p.1 = none
 nd:(hs.map (·.1)).Nodup
 tu:Reps c.r G ts us
section
variable {c:Db} {ρ ρ':Rho} {σ:St} {H H' G G':Hp} {hs:List (Addr × List V)} {ts:List D} {us:List V} {d:D} {v:V}
theorem SR.grow (s:SR c ρ σ H G hs ts us) (e:Ext G H G' H'):SR c ρ σ H' G' hs ts us:=by
 have keep:∀ a vs,H a = some (.lst vs)→G a = none→G' a = none:=fun a vs h1 h2 => by
   cases q:G' a with
   | none => rfl
   | some o =>
     rcases e.new a o q with z | z
     · rw [h2] at z; cases z
     · rw [h1] at z; cases z
 refine ⟨s.ext.trans e,s.ln,fun i d h => ?_,fun i ds h => ?_,s.inj,fun p hp => ?_,s.nd,s.tu.mono e.view⟩
 · (refine DX.x1_2 (s.sh i d h) ?_; rintro v h1 h2)
   exact ⟨v,h1,h2.mono e.view⟩
 · (refine DX.x2_7 (s.ow i ds h) ?_; rintro a vs h1 h2 h3 h4 h5 h6 h7)
   exact ⟨a,vs,h1,e.same _ _ h2,keep a vs h2 h3,h4,h5,h6.mono e.view,h7⟩
 · (refine DX.x0_3 (s.hd p hp) ?_; rintro h1 h2 h3)
   exact ⟨e.same _ _ h1,keep _ _ h1 h2,h3⟩
theorem SR.sub (s:SR c ρ σ H G hs ts us):Same G H:=s.ext.sub
theorem SR.push (s:SR c ρ σ H G hs ts us) (h:Rep c.r G d v):SR c ρ σ H G hs (d :: ts) (v :: us):=⟨s.ext,s.ln,s.sh,s.ow,s.inj,s.hd,s.nd,.cons h s.tu⟩
theorem SR.pop (s:SR c ρ σ H G hs (d :: ts) us):∃ v t,us = v :: t ∧ Rep c.r G d v ∧ SR c ρ σ H G hs ts t:=by
 (refine DX.x2_3 s.tu.cons_inv ?_; rintro v t e q z)
 exact ⟨v,t,e,q,s.ext,s.ln,s.sh,s.ow,s.inj,s.hd,s.nd,z⟩
theorem SR.pop1 {v:V} {us:List V} (s:SR c ρ σ H G hs (d :: ts) (v :: us)):Rep c.r G d v ∧ SR c ρ σ H G hs ts us:=by
 (refine DX.x2_3 s.pop ?_; rintro v' t e q z)
 cases e
 exact ⟨q,z⟩
theorem SR.pushs {ds:List D} {vs:List V} (s:SR c ρ σ H G hs ts us) (h:Reps c.r G ds vs):SR c ρ σ H G hs (ds ++ ts) (vs ++ us):=⟨s.ext,s.ln,s.sh,s.ow,s.inj,s.hd,s.nd,h.append s.tu⟩
theorem kb_ {α:Type} {l:List α} {i j:Nat} {x y:α} (h:(l.set i x)[j]? = some y):(j = i ∧ y = x) ∨ (j ≠ i ∧ l[j]? = some y):=by
 by_cases e:j = i
 · subst e
   rw [List.getElem?_set] at h
   simp at h
   exact .inl ⟨rfl,h.2.symm⟩
 · rw [List.getElem?_set_ne (Ne.symm e)] at h
   exact .inr ⟨e,h⟩
theorem SR.share (s:SR c ρ σ H G hs ts us) {i:Nat} {ds:List D} (h:ρ[i]? = some (.ow ds)):∃ a vs,σ[i]? = some (some (.ref a)) ∧ H a = some (.lst vs) ∧
   SR c (ρ.set i (.sh (.lst ds))) σ H (upd G a (.lst vs)) hs ts us ∧ Rep c.r (upd G a (.lst vs)) (.lst ds) (.ref a):=by
 (refine DX.x2_7 (s.ow i ds h) ?_; rintro a vs h1 h2 h3 h4 h5 h6 h7)
 have mono:Same G (upd G a (.lst vs)):=Same.upd h3
 have rep:Rep c.r (upd G a (.lst vs)) (.lst ds) (.ref a):=by
   rw [Rep]; exact ⟨a,vs,rfl,SqL.of yb_,h5,h6.mono mono⟩
 refine ⟨a,vs,h1,h2,⟨⟨s.ext.same,s.ext.view.trans mono,fun b o e => ?_,fun b o e => ?_⟩,by simpa using s.ln,fun j d e => ?_,fun j es e => ?_,fun j k es fs b e1 e2 e3 e4 => ?_,fun p hp => ?_,s.nd,s.tu.mono mono⟩,rep⟩
 · by_cases hb:b = a
   · subst hb; rw [yb_] at e; cases e; exact h2
   · rw [zb_ hb] at e; exact s.ext.sub b o e
 · by_cases hb:b = a
   · subst hb; exact .inr h4
   · rw [zb_ hb] at e; exact s.ext.new b o e
 · rcases kb_ e with ⟨rfl,z⟩ | ⟨_,z⟩
   · cases z; exact ⟨.ref a,h1,rep⟩
   · (refine DX.x1_2 (s.sh j d z) ?_; rintro v q1 q2)
     exact ⟨v,q1,q2.mono mono⟩
 · rcases kb_ e with ⟨_,z⟩ | ⟨ne,z⟩
   · cases z
   · (refine DX.x2_7 (s.ow j es z) ?_; rintro b ws q1 q2 q3 q4 q5 q6 q7)
     have hb:b ≠ a:=fun q => ne (s.inj j i es ds a z h (by rw [← q]; exact q1) h1)
     exact ⟨b,ws,q1,q2,by rw [zb_ hb]; exact q3,q4,q5,q6.mono mono,q7⟩
 · rcases kb_ e1 with ⟨_,z⟩ | ⟨_,z1⟩
   · cases z
   · rcases kb_ e2 with ⟨_,z⟩ | ⟨_,z2⟩
     · cases z
     · exact s.inj j k es fs b z1 z2 e3 e4
 · (refine DX.x0_3 (s.hd p hp) ?_; rintro q1 q2 q3)
   exact ⟨q1,by rw [zb_ (h7 p hp)]; exact q2,q3⟩
theorem SR.bind (s:SR c ρ σ H G hs ts us) (h:Rep c.r G d v) (i:Nat):SR c (ρ.set i (.sh d)) (σ.set i (some v)) H G hs ts us:=by
 by_cases hi:i < σ.length
 case neg =>
   rw [List.set_eq_of_length_le (by have:=s.ln; omega),List.set_eq_of_length_le (by omega)]
   exact s
 refine ⟨s.ext,by simpa using s.ln,fun j e q => ?_,fun j es q => ?_,fun j k es fs b e1 e2 e3 e4 => ?_,s.hd,s.nd,s.tu⟩
 · rcases kb_ q with ⟨rfl,z⟩ | ⟨ne,z⟩
   · cases z; exact ⟨v,by simp [hi],h⟩
   · (refine DX.x1_2 (s.sh j e z) ?_; rintro u q1 q2)
     exact ⟨u,by rw [List.getElem?_set_ne (Ne.symm ne)]; exact q1,q2⟩
 · rcases kb_ q with ⟨_,z⟩ | ⟨ne,z⟩
   · cases z
   · (refine DX.x2_2 (s.ow j es z) ?_; rintro a vs q1 q2)
     exact ⟨a,vs,by rw [List.getElem?_set_ne (Ne.symm ne)]; exact q1,q2⟩
 · rcases kb_ e1 with ⟨_,z⟩ | ⟨n1,z1⟩
   · cases z
   · rcases kb_ e2 with ⟨_,z⟩ | ⟨n2,z2⟩
     · cases z
     · rw [List.getElem?_set_ne (Ne.symm n1)] at e3
       rw [List.getElem?_set_ne (Ne.symm n2)] at e4
       exact s.inj j k es fs b z1 z2 e3 e4
theorem SR.unbind (s:SR c ρ σ H G hs ts us) (i:Nat):SR c (ρ.set i .un) (σ.set i none) H G hs ts us:=by
 refine ⟨s.ext,by simpa using s.ln,fun j e q => ?_,fun j es q => ?_,fun j k es fs b e1 e2 e3 e4 => ?_,s.hd,s.nd,s.tu⟩
 · rcases kb_ q with ⟨_,z⟩ | ⟨ne,z⟩
   · cases z
   · (refine DX.x1_2 (s.sh j e z) ?_; rintro u q1 q2)
     exact ⟨u,by rw [List.getElem?_set_ne (Ne.symm ne)]; exact q1,q2⟩
 · rcases kb_ q with ⟨_,z⟩ | ⟨ne,z⟩
   · cases z
   · (refine DX.x2_2 (s.ow j es z) ?_; rintro a vs q1 q2)
     exact ⟨a,vs,by rw [List.getElem?_set_ne (Ne.symm ne)]; exact q1,q2⟩
 · rcases kb_ e1 with ⟨_,z⟩ | ⟨n1,z1⟩
   · cases z
   · rcases kb_ e2 with ⟨_,z⟩ | ⟨n2,z2⟩
     · cases z
     · rw [List.getElem?_set_ne (Ne.symm n1)] at e3
       rw [List.getElem?_set_ne (Ne.symm n2)] at e4
       exact s.inj j k es fs b z1 z2 e3 e4
theorem SR.own (s:SR c ρ σ H G hs ts us) {ds:List D} {vs:List V} (h:Reps c.r G ds vs) {p:Addr} (hp:H p = none) (hz:vs.length ≤ sizeLine) (i:Nat) :
   SR c (ρ.set i (.ow ds)) (σ.set i (some (.ref p))) (upd H p (.lst vs)) G hs ts us:=by
 have hg:G p = none:=s.sub.free hp
 have h0:c.H₀ p = none:=s.ext.same.free hp
 have mono:Same H (upd H p (.lst vs)):=Same.upd hp
 by_cases hi:i < σ.length
 case neg =>
   rw [List.set_eq_of_length_le (by have:=s.ln; omega),List.set_eq_of_length_le (by omega)]
   refine ⟨⟨s.ext.same.trans mono,s.ext.view,s.ext.sub.trans mono,s.ext.new⟩,s.ln,s.sh,fun j es q => ?_,s.inj,fun q hq => ?_,s.nd,s.tu⟩
   · (refine DX.x2_3 (s.ow j es q) ?_; rintro a ws q1 q2 q3)
     exact ⟨a,ws,q1,mono _ _ q2,q3⟩
   · (refine DX.x0_3 (s.hd q hq) ?_; rintro q1 q2 q3)
     exact ⟨mono _ _ q1,q2,q3⟩
 refine ⟨⟨s.ext.same.trans mono,s.ext.view,s.ext.sub.trans mono,s.ext.new⟩,by simpa using s.ln,fun j e q => ?_,fun j es q => ?_,fun j k es fs b e1 e2 e3 e4 => ?_,fun q hq => ?_,s.nd,s.tu⟩
 · rcases kb_ q with ⟨_,z⟩ | ⟨ne,z⟩
   · cases z
   · (refine DX.x1_2 (s.sh j e z) ?_; rintro u q1 q2)
     exact ⟨u,by rw [List.getElem?_set_ne (Ne.symm ne)]; exact q1,q2⟩
 · rcases kb_ q with ⟨rfl,z⟩ | ⟨ne,z⟩
   · cases z
     refine ⟨p,vs,by simp [hi],yb_,hg,h0,hz,h,fun q hq e => ?_⟩
     rw [← e,(s.hd q hq).1] at hp
     cases hp
   · (refine DX.x2_3 (s.ow j es z) ?_; rintro a ws q1 q2 q3)
     exact ⟨a,ws,by rw [List.getElem?_set_ne (Ne.symm ne)]; exact q1,mono _ _ q2,q3⟩
 · rcases kb_ e1 with ⟨j1,z1⟩ | ⟨n1,z1⟩
   · rcases kb_ e2 with ⟨k2,z2⟩ | ⟨n2,z2⟩
     · exact j1.trans k2.symm
     · rw [j1] at e3
       rw [List.getElem?_set_ne (Ne.symm n2)] at e4
       simp [hi] at e3
       (refine DX.x2_3 (s.ow k fs z2) ?_; rintro a ws q1 q2 _)
       rw [e4] at q1
       cases q1
       rw [← e3,hp] at q2
       cases q2
   · rcases kb_ e2 with ⟨k2,z2⟩ | ⟨n2,z2⟩
     · rw [k2] at e4
       rw [List.getElem?_set_ne (Ne.symm n1)] at e3
       simp [hi] at e4
       (refine DX.x2_3 (s.ow j es z1) ?_; rintro a ws q1 q2 _)
       rw [e3] at q1
       cases q1
       rw [← e4,hp] at q2
       cases q2
     · rw [List.getElem?_set_ne (Ne.symm n1)] at e3
       rw [List.getElem?_set_ne (Ne.symm n2)] at e4
       exact s.inj j k es fs b z1 z2 e3 e4
 · (refine DX.x0_3 (s.hd q hq) ?_; rintro q1 q2 q3)
   exact ⟨mono _ _ q1,q2,q3⟩
theorem SR.more (s:SR c ρ σ H G hs ts us) (h:Rep c.r G d v) {i:Nat} {ds:List D} (ho:ρ[i]? = some (.ow ds)) (hz:ds.length < sizeLine) :
   ∃ a vs,σ[i]? = some (some (.ref a)) ∧ H a = some (.lst vs) ∧ vs.length < sizeLine ∧ SR c (ρ.set i (.ow (ds ++ [d]))) σ (upd H a (.lst (vs ++ [v]))) G hs ts us:=by
 (refine DX.x2_7 (s.ow i ds ho) ?_; rintro a vs h1 h2 h3 h4 h5 h6 h7)
 have hl:=h6.length
 have oth:∀ b o,b ≠ a→H b = some o→upd H a (.lst (vs ++ [v])) b = some o:=fun b o n e => by rw [zb_ n]; exact e
 refine ⟨a,vs,h1,h2,by omega,⟨⟨fun b o e => oth b o (wb_ e h4) (s.ext.same b o e),s.ext.view,fun b o e => oth b o (wb_ e h3) (s.ext.sub b o e),s.ext.new⟩,by simpa using s.ln,fun j e q => ?_,fun j es q => ?_,fun j k es fs b e1 e2 e3 e4 => ?_,fun q hq => ?_,s.nd,s.tu⟩⟩
 · rcases kb_ q with ⟨_,z⟩ | ⟨ne,z⟩
   · cases z
   · exact s.sh j e z
 · rcases kb_ q with ⟨rfl,z⟩ | ⟨ne,z⟩
   · cases z
     exact ⟨a,vs ++ [v],h1,yb_,h3,h4,by simp; omega,h6.snoc h,h7⟩
   · (refine DX.x2_3 (s.ow j es z) ?_; rintro b ws q1 q2 q3)
     have hb:b ≠ a:=fun q => ne (s.inj j i es ds a z ho (by rw [← q]; exact q1) h1)
     exact ⟨b,ws,q1,oth b _ hb q2,q3⟩
 · have w1:∃ x,ρ[j]? = some (.ow x):=by
     rcases kb_ e1 with ⟨j1,_⟩ | ⟨_,z1⟩
     · exact ⟨ds,by rw [j1]; exact ho⟩
     · exact ⟨es,z1⟩
   have w2:∃ x,ρ[k]? = some (.ow x):=by
     rcases kb_ e2 with ⟨j1,_⟩ | ⟨_,z1⟩
     · exact ⟨ds,by rw [j1]; exact ho⟩
     · exact ⟨fs,z1⟩
   obtain ⟨x1,w1⟩:=w1
   obtain ⟨x2,w2⟩:=w2
   exact s.inj j k x1 x2 b w1 w2 e3 e4
 · (refine DX.x0_3 (s.hd q hq) ?_; rintro q1 q2 q3)
   exact ⟨oth _ _ (h7 q hq) q1,q2,q3⟩
end
end L2
namespace L2
open PySem PySem.Spec PyProof.Rows
open DS (D Sl Rho R M FS O Tg)
noncomputable def FinM {α β:Type} (c:Db) (Ex:St→XK) (rep:Hp→α→β→Prop) (σ:St) (hs:List (Addr × List V)) (ts:List D) (us:List V) (ρ':Rho) (r:R α) (Q:β→Hp→Prop):Prop:=match r with
 | .ok a => ∀ v H' G',SR c ρ' σ H' G' hs ts us→rep G' a v→Q v H'
 | .er n => ∀ H' G',SR c ρ' σ H' G' hs ts us→Ex σ (.ref (c.r.ad n)) none H'
noncomputable def tM {α β:Type} (c:Db) (Ex:St→XK) (rep:Hp→α→β→Prop) (f:M α) (σ:St) (H:Hp) (Q:β→Hp→Prop):Prop :=
 ∃ ρ G hs ts us ρ' r,SR c ρ σ H G hs ts us ∧ f ρ = some (ρ',r) ∧ FinM c Ex rep σ hs ts us ρ' r Q
noncomputable abbrev tE (c:Db) (Ex:St→XK) (f:M D):TE:=tM c Ex (Rep c.r) f
noncomputable abbrev tA (c:Db) (Ex:St→XK) (f:M (List D)):TA:=tM c Ex (Reps c.r) f
noncomputable abbrev tT (c:Db) (Ex:St→XK) (f:M Bool):TT:=tM c Ex (fun _ a b => a = b) f
noncomputable abbrev tP (c:Db) (Ex:St→XK) (f:M (Option Int)):TO:=tM c Ex (fun _ a b => a = b) f
section
variable {X:Cx} {e:Expr}
theorem PE.imp {t t':TE} (h:PE X e t) (i:∀ σ H Q,t' σ H Q→t σ H Q):PE X e t':=fun pins s σ H Q I q => h pins s σ H Q I (i σ H Q q)
theorem PT.imp {t t':TT} (h:PT X e t) (i:∀ σ H Q,t' σ H Q→t σ H Q):PT X e t':=fun pins s σ H Q I q => h pins s σ H Q I (i σ H Q q)
theorem PW.imp {t t':TT} (h:PW X e t) (i:∀ σ H Q,t' σ H Q→t σ H Q):PW X e t':=fun wh pins s σ H Q I q => h wh pins s σ H Q I (i σ H Q q)
theorem PA.imp {es:List Expr} {t t':TA} (h:PA X es t) (i:∀ σ H Q,t' σ H Q→t σ H Q):PA X es t':=fun pos pins s σ H Q I q => h pos pins s σ H Q I (i σ H Q q)
theorem PO.imp {o:Option Expr} {t t':TO} (h:PO X o t) (i:∀ σ H Q,t' σ H Q→t σ H Q):PO X o t':=fun pins s σ H Q I q => h pins s σ H Q I (i σ H Q q)
theorem PS.imp {st:Stmt} {t t':TS} (h:PS X st t) (i:∀ D σ H,t' D σ H→t D σ H):PS X st t':=fun pins s σ H D I q => h pins s σ H D I (i D σ H q)
theorem PSs.imp {st:List Stmt} {t t':TS} (h:PSs X st t) (i:∀ D σ H,t' D σ H→t D σ H):PSs X st t':=fun pins s σ H D I q => h pins s σ H D I (i D σ H q)
theorem PI.imp {tg iter:Expr} {t t':TI} (h:PI X tg iter t) (i:∀ σ H Q,t' σ H Q→t σ H Q):PI X tg iter t':=fun pins s σ H Q I q => h pins s σ H Q I (i σ H Q q)
theorem PTs.imp {ifs:List Expr} {t t':TT} (h:PTs X ifs t) (i:∀ σ H Q,t' σ H Q→t σ H Q):PTs X ifs t':=fun pins s σ H Q I q => h pins s σ H Q I (i σ H Q q)
end
section
variable {c:Db} {Ex:St→XK} {ρ ρ':Rho} {σ:St} {H G:Hp} {hs:List (Addr × List V)} {ts:List D} {us:List V}
theorem FinM.push {α β:Type} {rep:Hp→α→β→Prop} {r:R α} {Q:β→Hp→Prop} {d:D} {v:V} (h:FinM c Ex rep σ hs ts us ρ' r Q):FinM c Ex rep σ hs (d :: ts) (v :: us) ρ' r Q:=by
 cases r with
 | ok a => exact fun u H' G' s q => h u H' G' s.pop1.2 q
 | er n => exact fun H' G' s => h H' G' s.pop1.2
theorem xb_ {α β γ δ:Type} {rep:Hp→α→β→Prop} {rep':Hp→γ→δ→Prop} {m:M α} {f:α→M γ} {r:R γ} {Q':δ→Hp→Prop} {Q:β→Hp→Prop} (s:SR c ρ σ H G hs ts us) (h:DS.bnd m f ρ = some (ρ',r)) (hf:FinM c Ex rep' σ hs ts us ρ' r Q')
   (ok:∀ ρ1 a v H1 G1,f a ρ1 = some (ρ',r)→SR c ρ1 σ H1 G1 hs ts us→rep G1 a v→Q v H1):tM c Ex rep m σ H Q:=by
 unfold DS.bnd at h
 cases q:m ρ with
 | none => rw [q] at h; cases h
 | some p =>
   obtain ⟨ρ1,x⟩:=p
   rw [q] at h
   cases x with
   | er n => cases h; exact ⟨ρ,G,hs,ts,us,_,.er n,s,q,hf⟩
   | ok a => exact ⟨ρ,G,hs,ts,us,ρ1,.ok a,s,q,fun v H1 G1 s1 r1 => ok ρ1 a v H1 G1 h s1 r1⟩
theorem ub_ {α:Type} {o:Option α} {r:R α} (h:DS.lft o ρ = some (ρ',r)):∃ a,o = some a ∧ ρ' = ρ ∧ r = .ok a:=by
 unfold DS.lft at h
 cases o with
 | none => cases h
 | some a => cases h; exact ⟨a,rfl,rfl,rfl⟩
theorem xf_ {α:Type} {a:α} {r:R α} (h:DS.ret a ρ = some (ρ',r)):ρ' = ρ ∧ r = .ok a:=by
 unfold DS.ret at h; cases h; exact ⟨rfl,rfl⟩
end
noncomputable def rD (r:Rc) (g:D→D→Option D):R2:=fun x y H Q => ∃ G dx dy d,Same G H ∧ Rep r G dx x ∧ Rep r G dy y ∧ g dx dy = some d ∧ ∀ v H' G',Ext G H G' H'→Rep r G' d v→Q v H'
noncomputable def rD1 (r:Rc) (g:D→Option D):V→Hp→VK→Prop:=fun x H Q => ∃ G dx d,Same G H ∧ Rep r G dx x ∧ g dx = some d ∧ ∀ v H' G',Ext G H G' H'→Rep r G' d v→Q v H'
noncomputable def rDL (r:Rc) (g:List D→Option D):List V→Hp→VK→Prop:=fun xs H Q => ∃ G ds d,Same G H ∧ Reps r G ds xs ∧ g ds = some d ∧ ∀ v H' G',Ext G H G' H'→Rep r G' d v→Q v H'
section
variable {c:Db} {Ex:St→XK} {σ:St} {H:Hp} {Q:VK}
theorem wy_ {g:D→D→Option D} {fa fb:M D} (h:tE c Ex (DS.op2 g fa fb) σ H Q):tOp (rD c.r g) (tE c Ex fa) (tE c Ex fb) σ H Q:=by
 (refine DX.x7_3 h ?_; try clear h; rintro ρ G hs ts us ρ' r s e hf)
 refine xb_ s e hf fun ρ1 x v H1 G1 e1 s1 r1 => ?_
 refine xb_ (s1.push r1) e1 hf.push fun ρ2 y u H2 G2 e2 s2 r2 => ?_
 (refine DX.x1_3 (ub_ e2) ?_; rintro d e3 rfl rfl)
 obtain ⟨r1',s2'⟩:=s2.pop1
 exact ⟨G2,x,y,d,s2'.sub,r1',r2,e3,fun v' H' G' ex rp => hf v' H' G' (s2'.grow ex) rp⟩
theorem qaj_ {g:D→Option D} {fa:M D} (h:tE c Ex (DS.op1 g fa) σ H Q):tE c Ex fa σ H fun x H1 => rD1 c.r g x H1 Q:=by
 (refine DX.x7_3 h ?_; try clear h; rintro ρ G hs ts us ρ' r s e hf)
 refine xb_ s e hf fun ρ1 x v H1 G1 e1 s1 r1 => ?_
 (refine DX.x1_3 (ub_ e1) ?_; rintro d e3 rfl rfl)
 exact ⟨G1,x,d,s1.sub,r1,e3,fun v' H' G' ex rp => hf v' H' G' (s1.grow ex) rp⟩
theorem zak_ {g:List D→Option D} {fa:M (List D)} (h:tE c Ex (DS.blt g fa) σ H Q):tA c Ex fa σ H fun x H1 => rDL c.r g x H1 Q:=by
 (refine DX.x7_3 h ?_; try clear h; rintro ρ G hs ts us ρ' r s e hf)
 refine xb_ s e hf fun ρ1 x v H1 G1 e1 s1 r1 => ?_
 (refine DX.x1_3 (ub_ e1) ?_; rintro d e3 rfl rfl)
 exact ⟨G1,x,d,s1.sub,r1,e3,fun v' H' G' ex rp => hf v' H' G' (s1.grow ex) rp⟩
theorem ys_ {fa:M D} {Q:Bool→Hp→Prop} (h:tT c Ex (DS.tsB fa) σ H Q):tE c Ex fa σ H fun x H1 => ∃ k,x = .bl k ∧ Q k H1:=by
 (refine DX.x7_3 h ?_; try clear h; rintro ρ G hs ts us ρ' r s e hf)
 refine xb_ s e hf fun ρ1 x v H1 G1 e1 s1 r1 => ?_
 (refine DX.x1_3 (ub_ e1) ?_; rintro d e3 rfl rfl)
 cases x with
 | bl b =>
   delta DS.asB at e3; dsimp only at e3
   cases e3
   rw [Rep] at r1
   exact ⟨_,r1,hf _ H1 G1 s1 rfl⟩
 | _ => cases e3
theorem ka3_ {r:Rc} {G:Hp} {d:D} {v:V} {b:Bool} (s:Same G H) (h:Rep r G d v) (e:DS.ko_ d = some b):TruV r.K v H b:=by
 cases d with
 | non => rw [Rep] at h; subst h; delta DS.ko_ at e; dsimp only at e; cases e; exact rfl
 | bl x => rw [Rep] at h; subst h; delta DS.ko_ at e; dsimp only at e; cases e; exact rfl
 | int x => rw [Rep] at h; subst h; delta DS.ko_ at e; dsimp only at e; cases e; exact rfl
 | str x =>
   rw [Rep] at h; subst h; delta DS.ko_ at e; dsimp only at e
   split at e
   · rename_i hz; cases e; exact ⟨hz,rfl⟩
   · cases e
 | lst xs =>
   rw [Rep] at h
   (refine DX.x2_4 h ?_; try clear h; rintro a vs rfl q _ t)
   delta DS.ko_ at e; dsimp only at e; cases e
   refine .inl ⟨vs,s.seq q,?_⟩
   have:=t.length
   cases xs <;> cases vs <;> first | rfl | simp at this
 | tup xs =>
   rw [Rep] at h
   (refine DX.x2_4 h ?_; try clear h; rintro a vs rfl q _ t)
   delta DS.ko_ at e; dsimp only at e; cases e
   refine .inr (.inl ⟨vs,s.seqT q,?_⟩)
   have:=t.length
   cases xs <;> cases vs <;> first | rfl | simp at this
 | set _ => cases e
 | exc _ => cases e
theorem va3_ {fa:M D} {Q:Bool→Hp→Prop} (h:tT c Ex (DS.tst fa) σ H Q):tE c Ex fa σ H fun x H1 => ∃ k,TruV c.r.K x H1 k ∧ Q k H1:=by
 (refine DX.x7_3 h ?_; try clear h; rintro ρ G hs ts us ρ' r s e hf)
 refine xb_ s e hf fun ρ1 x v H1 G1 e1 s1 r1 => ?_
 (refine DX.x1_3 (ub_ e1) ?_; rintro b e3 rfl rfl)
 exact ⟨b,ka3_ s1.sub r1 e3,hf b H1 G1 s1 rfl⟩
end
section
variable {X:Cx} {c:Db} {Ex:St→XK} {a b e:Expr} {rest es:List Expr} {pos:Pos} {fa fb fc:M D} {fx fy:M Bool} {fs:M (List D)}
theorem za_ (i:Nat) {x:Str} (hN:autoParam (X.N[i]? = some x) au1._auto_1) (hv:autoParam (Vis X.env.scope x) au6._auto_1) (hd:autoParam ((x == ("__debug__":Str)) = false) au2._auto_1)
   (hcd:autoParam ((x == ("__classdict__":Str)) = false) au2._auto_1):PE X (.Name x pos) (tE c Ex (DS.vr i)):=(yag_ hN hv hd hcd).imp fun σ H Q h => by
 (refine DX.x7_3 h ?_; try clear h; rintro ρ G hs ts us ρ' r s e hf)
 unfold DS.vr at e
 split at e
 · rename_i d q
   cases e
   (refine DX.x1_2 (s.sh i d q) ?_; rintro v h1 h2)
   exact ⟨v,h1,hf v H G s h2⟩
 · rename_i xs q
   cases e
   (refine DX.x2_4 (s.share q) ?_; rintro a vs h1 h2 h3 h4)
   exact ⟨.ref a,h1,hf _ H _ h3 h4⟩
 · cases e
theorem zae_ {v:V} {d:D} (h:PE X e (tC v)) (hv:∀ G,Rep c.r G d v):PE X e (tE c Ex (DS.cst d)):=h.imp fun σ H Q h => by
 (refine DX.x7_3 h ?_; try clear h; rintro ρ G hs ts us ρ' r s e hf)
 obtain ⟨rfl,rfl⟩:=xf_ e
 exact hf v H G s (hv G)
theorem ua_ {i:Int} {j}:PE X (.Constant (.int i) j pos) (tE c Ex (DS.cst (.int i))):=zae_ xav_ fun G => by rw [Rep]
theorem d_bl {i:Bool} {j}:PE X (.Constant (.bool i) j pos) (tE c Ex (DS.cst (.bl i))):=zae_ ybh_ fun G => by rw [Rep]
theorem j2_ {j}:PE X (.Constant .none j pos) (tE c Ex (DS.cst .non)):=zae_ ka7_ fun G => by rw [Rep]
theorem ud_ {x:Str} {j}:PE X (.Constant (.str x) j pos) (tE c Ex (DS.cst (.str x))):=zae_ wav_ fun G => by rw [Rep]
theorem xbd_ {x:Str} {i:Int} {t:Tok} (hm:X.mg x = some (.int i t)) (hg:autoParam (Gl X x) au1._auto_1) (hd:autoParam ((x == ("__debug__":Str)) = false) au2._auto_1):PE X (.Name x pos) (tE c Ex (DS.cst (.int i))):=zae_ (v:=.int i) (q5_ hg hm ⟨t,rfl⟩ hd) fun G => by rw [Rep]
theorem d_op {op:Operator} {g:D→D→Option D} (ho:OpR X (binaryOp op) (rD c.r g)) (ha:PE X a (tE c Ex fa)) (hb:PE X b (tE c Ex fb)):PE X (.BinOp a op b pos) (tE c Ex (DS.op2 g fa fb)):=(xbi_ ho ha hb).imp fun _ _ _ h => wy_ h
theorem d_un {op:UnaryOp} {g:D→Option D} (ho:UnR X (unaryOp op) (rD1 c.r g)) (ha:PE X a (tE c Ex fa)):PE X (.UnaryOp op a pos) (tE c Ex (DS.op1 g fa)):=(ua8_ ho ha).imp fun _ _ _ h => qaj_ h
theorem jy_ {op:CmpOp} {g:D→D→Option D} (ho:OpR X (compareOp op) (rD c.r g)) (ha:PE X a (tE c Ex fa)) (hb:PE X b (tE c Ex fb)) (hm:behindInMarks op b = false):PE X (.Compare a [op] [b] pos) (tE c Ex (DS.op2 g fa fb)):=(waz_ ho ha hb hm).imp fun _ _ _ h => wy_ h
theorem ye_ {op:CmpOp} {g:D→D→Option D} (ho:OpR X (compareOp op) (rD c.r g)) (ha:PE X a (tE c Ex fa)) (hb:PE X b (tE c Ex fb)) (hm:behindInMarks op b = false):PT X (.Compare a [op] [b] pos) (tT c Ex (DS.tsB (DS.op2 g fa fb))):=(jaz_ ho ha hb hm).imp fun _ _ _ h => wy_ (ys_ h)
theorem d_ix {g:D→D→Option D} (ho:IxR X (rD c.r g)) (ha:PE X a (tE c Ex fa)) (hb:PE X b (tE c Ex fb)) (hs:jah_ b):PE X (.Subscript a b pos) (tE c Ex (DS.op2 g fa fb)):=(ybj_ ho ha hb hs).imp fun _ _ _ h => wy_ h
theorem ky_ (ha:PE X a (tE c Ex fa)) (he:∀ whole,isTrue a X.env whole = (do let v ← whole; standAt a.pos; holding [v] (truthy v))) (hK:autoParam (X.K = c.r.K) au1._auto_1):PT X a (tT c Ex (DS.tst fa)):=(kap_ ha he).imp fun _ _ _ h => by rw [hK]; exact va3_ h
theorem wbl_ {op op':CmpOp} {g g':D→D→Option D} (ho:OpR X (compareOp op) (rD c.r g)) (ho':OpR X (compareOp op') (rD c.r g')) (ha:PE X a (tE c Ex fa)) (hb:PE X b (tE c Ex fb)) {d:Expr} (hc:PE X d (tE c Ex fc))
   (hm:autoParam (lastMarks [op,op'] [b,d] = false) au7._auto_1):PE X (.Compare a [op,op'] [b,d] pos) (tE c Ex (DS.chn g g' fa fb fc)):=(wap_ ho ho' ha hb hc hm).imp fun σ H Q h => by
 (refine DX.x7_3 h ?_; try clear h; rintro ρ G hs ts us ρ' r s e hf)
 refine xb_ s e hf fun ρ1 x v H1 G1 e1 s1 r1 => ?_
 refine xb_ (s1.push r1) e1 hf.push fun ρ2 y u H2 G2 e2 s2 r2 => ?_
 obtain ⟨r1',s2'⟩:=s2.pop1
 unfold DS.bnd at e2
 cases q:(g x y).bind DS.asB with
 | none => rw [q] at e2; cases e2
 | some k =>
   rw [q] at e2
   (refine DX.x1_2 (Option.bind_eq_some_iff.mp q) ?_; rintro z z1 z2)
   refine ⟨G2,x,y,z,s2'.sub,r1',r2,z1,fun w H3 G3 ex rw' => ?_⟩
   cases z with
   | bl k' =>
     delta DS.asB at z2; dsimp only at z2
     cases z2
     rw [Rep] at rw'
     refine ⟨k,rw',?_⟩
     have s3:=s2'.grow ex
     have ry:=r2.mono ex.view
     cases k with
     | false =>
       rw [if_neg (by simp)]
       have e3:DS.ret (D.bl false) ρ2 = some (ρ',r):=e2
       obtain ⟨rfl,rfl⟩:=xf_ e3
       exact hf (.bl false) H3 G3 s3 (by rw [Rep])
     | true =>
       rw [if_pos rfl]
       have e3:DS.bnd fc (fun z => DS.lft (g' y z)) ρ2 = some (ρ',r):=e2
       refine xb_ (s3.push ry) e3 hf.push fun ρ4 z u4 H4 G4 e4 s4 r4 => ?_
       (refine DX.x1_3 (ub_ e4) ?_; rintro d e5 rfl rfl)
       obtain ⟨ry',s4'⟩:=s4.pop1
       exact ⟨G4,y,z,d,s4'.sub,ry',r4,e5,fun v' H' G' ex rp => hf v' H' G' (s4'.grow ex) rp⟩
   | _ => cases z2
theorem wbd_ {op op':CmpOp} {g g':D→D→Option D} (ho:OpR X (compareOp op) (rD c.r g)) (ho':OpR X (compareOp op') (rD c.r g')) (ha:PE X a (tE c Ex fa)) (hb:PE X b (tE c Ex fb)) {d:Expr} (hc:PE X d (tE c Ex fc))
   (hm:autoParam (lastMarks [op,op'] [b,d] = false) au7._auto_1):PT X (.Compare a [op,op'] [b,d] pos) (tT c Ex (DS.tsB (DS.chn g g' fa fb fc))):=(jap_ ho ho' ha hb hc hm).imp fun σ H Q h => by
 (refine DX.x7_3 (ys_ h) ?_; rintro ρ G hs ts us ρ' r s e hf)
 refine xb_ s e hf fun ρ1 x v H1 G1 e1 s1 r1 => ?_
 refine xb_ (s1.push r1) e1 hf.push fun ρ2 y u H2 G2 e2 s2 r2 => ?_
 obtain ⟨r1',s2'⟩:=s2.pop1
 unfold DS.bnd at e2
 cases q:(g x y).bind DS.asB with
 | none => rw [q] at e2; cases e2
 | some k =>
   rw [q] at e2
   (refine DX.x1_2 (Option.bind_eq_some_iff.mp q) ?_; rintro z z1 z2)
   refine ⟨G2,x,y,z,s2'.sub,r1',r2,z1,fun w H3 G3 ex rw' => ?_⟩
   cases z with
   | bl k' =>
     delta DS.asB at z2; dsimp only at z2
     cases z2
     rw [Rep] at rw'
     refine ⟨k,rw',?_⟩
     have s3:=s2'.grow ex
     have ry:=r2.mono ex.view
     cases k with
     | false =>
       rw [if_neg (by simp)]
       have e3:DS.ret (D.bl false) ρ2 = some (ρ',r):=e2
       obtain ⟨rfl,rfl⟩:=xf_ e3
       exact hf (.bl false) H3 G3 s3 (by rw [Rep])
     | true =>
       rw [if_pos rfl]
       have e3:DS.bnd fc (fun z => DS.lft (g' y z)) ρ2 = some (ρ',r):=e2
       refine xb_ (s3.push ry) e3 hf.push fun ρ4 z u4 H4 G4 e4 s4 r4 => ?_
       (refine DX.x1_3 (ub_ e4) ?_; rintro d e5 rfl rfl)
       obtain ⟨ry',s4'⟩:=s4.pop1
       exact ⟨G4,y,z,d,s4'.sub,ry',r4,e5,fun v' H' G' ex rp => hf v' H' G' (s4'.grow ex) rp⟩
   | _ => cases z2
theorem yak_ {r:Rc} {G:Hp} {d:D} {v:V} (h:Rep r G d v):(d = .non ∧ v = .non) ∨ (d ≠ .non ∧ v ≠ .non):=by
 cases d with
 | non => rw [Rep] at h; exact .inl ⟨rfl,h⟩
 | bl _ => rw [Rep] at h; subst h; exact .inr ⟨fun z => (by cases z),fun z => (by cases z)⟩
 | int _ => rw [Rep] at h; subst h; exact .inr ⟨fun z => (by cases z),fun z => (by cases z)⟩
 | str _ => rw [Rep] at h; subst h; exact .inr ⟨fun z => (by cases z),fun z => (by cases z)⟩
 | lst _ => rw [Rep] at h; (refine DX.x2_2 h ?_; try clear h; rintro a vs rfl _); exact .inr ⟨fun z => (by cases z),fun z => (by cases z)⟩
 | tup _ => rw [Rep] at h; (refine DX.x2_2 h ?_; try clear h; rintro a vs rfl _); exact .inr ⟨fun z => (by cases z),fun z => (by cases z)⟩
 | set _ => rw [Rep] at h; (refine DX.x2_2 h ?_; try clear h; rintro a vs rfl _); exact .inr ⟨fun z => (by cases z),fun z => (by cases z)⟩
 | exc _ => rw [Rep] at h; (refine DX.x1_2 h ?_; try clear h; rintro a rfl _); exact .inr ⟨fun z => (by cases z),fun z => (by cases z)⟩
theorem xak_ {σ:St} {H:Hp} {Q:VK} (h:tE c Ex (DS.op1 DS.isN fa) σ H Q):tIsN (tE c Ex fa) σ H Q:=by
 (refine DX.x7_3 h ?_; try clear h; rintro ρ G hs ts us ρ' r s e hf)
 refine xb_ s e hf fun ρ1 x v H1 G1 e1 s1 r1 => ?_
 (refine DX.x1_3 (ub_ e1) ?_; rintro d e3 rfl rfl)
 refine hf _ H1 G1 s1 ?_
 rcases yak_ r1 with ⟨rfl,rfl⟩ | ⟨n1,n2⟩
 · delta DS.isN at e3; dsimp only at e3; cases e3; rw [Rep]; simp
 · have:d = .bl false:=by cases x <;> simp [DS.isN] at e3 n1 ⊢ <;> exact e3.symm
   subst this
   rw [Rep]; simp [n2]
theorem ua3_ {σ:St} {H:Hp} {Q:VK} (h:tE c Ex (DS.op1 DS.noN fa) σ H Q):va7_ (tE c Ex fa) σ H Q:=by
 (refine DX.x7_3 h ?_; try clear h; rintro ρ G hs ts us ρ' r s e hf)
 refine xb_ s e hf fun ρ1 x v H1 G1 e1 s1 r1 => ?_
 (refine DX.x1_3 (ub_ e1) ?_; rintro d e3 rfl rfl)
 refine hf _ H1 G1 s1 ?_
 rcases yak_ r1 with ⟨rfl,rfl⟩ | ⟨n1,n2⟩
 · delta DS.noN at e3; dsimp only at e3; cases e3; rw [Rep]; simp
 · have:d = .bl true:=by cases x <;> simp [DS.noN] at e3 n1 ⊢ <;> exact e3.symm
   subst this
   rw [Rep]; simp [n2]
theorem jbl_ {j pos'} (ha:PE X a (tE c Ex fa)):PE X (.Compare a [.Is] [.Constant .none j pos'] pos) (tE c Ex (DS.op1 DS.isN fa)):=(ua7_ (jav_ ha)).imp fun _ _ _ h => xak_ h
theorem k2_ {j pos'} (ha:PE X a (tE c Ex fa)):PT X (.Compare a [.Is] [.Constant .none j pos'] pos) (tT c Ex (DS.tsB (DS.op1 DS.isN fa))):=(kav_ (jav_ ha)).imp fun _ _ _ h => xak_ (ys_ h)
theorem jbd_ {j pos'} (ha:PE X a (tE c Ex fa)):PT X (.Compare a [.IsNot] [.Constant .none j pos'] pos) (tT c Ex (DS.tsB (DS.op1 DS.noN fa))):=(kav_ (vay_ ha)).imp fun _ _ _ h => ua3_ (ys_ h)
theorem wak_ (ha:PT X a (tT c Ex fx)):PW X (.BoolOp .And [a] pos) (tT c Ex fx):=uay_ ha
theorem yae_ (ha:PT X a (tT c Ex fx)):PW X (.BoolOp .Or [a] pos) (tT c Ex fx):=qa7_ ha
theorem jak_ (ha:PT X a (tT c Ex fx)) (hb:PW X (.BoolOp .And (b :: rest) pos) (tT c Ex fy)):PW X (.BoolOp .And (a :: b :: rest) pos) (tT c Ex (DS.andT fx fy)):=(za8_ ha hb).imp fun σ H Q h => by
 (refine DX.x7_3 h ?_; try clear h; rintro ρ G hs ts us ρ' r s e hf)
 refine xb_ s e hf fun ρ1 x v H1 G1 e1 s1 r1 => ?_
 subst r1
 cases x with
 | true => rw [if_pos rfl] at e1 ⊢; exact ⟨ρ1,G1,hs,ts,us,ρ',r,s1,e1,hf⟩
 | false => rw [if_neg (by simp)] at e1 ⊢; obtain ⟨rfl,rfl⟩:=xf_ e1; exact hf false H1 G1 s1 rfl
theorem vy_ (ha:PT X a (tT c Ex fx)) (hb:PW X (.BoolOp .Or (b :: rest) pos) (tT c Ex fy)):PW X (.BoolOp .Or (a :: b :: rest) pos) (tT c Ex (DS.orT fx fy)):=(xbh_ ha hb).imp fun σ H Q h => by
 (refine DX.x7_3 h ?_; try clear h; rintro ρ G hs ts us ρ' r s e hf)
 refine xb_ s e hf fun ρ1 x v H1 G1 e1 s1 r1 => ?_
 subst r1
 cases x with
 | true => rw [if_pos rfl] at e1 ⊢; obtain ⟨rfl,rfl⟩:=xf_ e1; exact hf true H1 G1 s1 rfl
 | false => rw [if_neg (by simp)] at e1 ⊢; exact ⟨ρ1,G1,hs,ts,us,ρ',r,s1,e1,hf⟩
theorem xs_ (ha:PT X a (tT c Ex fx)):PT X (.UnaryOp .Not a pos) (tT c Ex (DS.notT fx)):=(ya8_ ha).imp fun σ H Q h => by
 (refine DX.x7_3 h ?_; try clear h; rintro ρ G hs ts us ρ' r s e hf)
 refine xb_ s e hf fun ρ1 x v H1 G1 e1 s1 r1 => ?_
 subst r1
 obtain ⟨rfl,rfl⟩:=xf_ e1
 exact hf _ H1 G1 s1 rfl
theorem xae_ {op} (ha:PE X a (tE c Ex fa)):PE X (.BoolOp op [a] pos) (tE c Ex fa):=xa8_ ha
theorem zax_ {σ:St} {H:Hp} {γ δ:Type} {rep':Hp→γ→δ→Prop} {f:Bool→M γ} {ρ ρ':Rho} {G:Hp} {hs:List (Addr × List V)} {ts:List D} {us:List V} {r:R γ} {Q':δ→Hp→Prop} {Q:Bool→Hp→Prop} (s:SR c ρ σ H G hs ts us) (h:DS.bnd (DS.tsB fa) f ρ = some (ρ',r)) (hf:FinM c Ex rep' σ hs ts us ρ' r Q')
   (ok:∀ ρ1 k H1 G1,f k ρ1 = some (ρ',r)→SR c ρ1 σ H1 G1 hs ts us→Q k H1):tE c Ex fa σ H fun x H1 => ∃ k,x = .bl k ∧ Q k H1 :=
 ys_ (xb_ s h hf fun ρ1 k v H1 G1 e1 s1 r1 => by subst r1; exact ok ρ1 k H1 G1 e1 s1)
theorem v2_ (ha:PE X a (tE c Ex fa)) (hb:PE X (.BoolOp .And (b :: rest) pos) (tE c Ex fb)):PE X (.BoolOp .And (a :: b :: rest) pos) (tE c Ex (DS.andV fa fb)):=(wa8_ ha hb).imp fun σ H Q h => by
 (refine DX.x7_3 h ?_; try clear h; rintro ρ G hs ts us ρ' r s e hf)
 refine zax_ (fa:=fa) (Q:=fun k H1 => if k = true then tE c Ex fb σ H1 Q else Q (.bl false) H1) s e hf fun ρ1 k H1 G1 e1 s1 => ?_
 cases k with
 | true => rw [if_pos rfl] at e1 ⊢; exact ⟨ρ1,G1,hs,ts,us,ρ',r,s1,e1,hf⟩
 | false => rw [if_neg (by simp)] at e1 ⊢; obtain ⟨rfl,rfl⟩:=xf_ e1; exact hf _ H1 G1 s1 (by rw [Rep])
theorem kbl_ (ha:PE X a (tE c Ex fa)) (hb:PE X (.BoolOp .Or (b :: rest) pos) (tE c Ex fb)):PE X (.BoolOp .Or (a :: b :: rest) pos) (tE c Ex (DS.orV fa fb)):=(jbh_ ha hb).imp fun σ H Q h => by
 (refine DX.x7_3 h ?_; try clear h; rintro ρ G hs ts us ρ' r s e hf)
 refine zax_ (fa:=fa) (Q:=fun k H1 => if k = true then Q (.bl true) H1 else tE c Ex fb σ H1 Q) s e hf fun ρ1 k H1 G1 e1 s1 => ?_
 cases k with
 | true => rw [if_pos rfl] at e1 ⊢; obtain ⟨rfl,rfl⟩:=xf_ e1; exact hf _ H1 G1 s1 (by rw [Rep])
 | false => rw [if_neg (by simp)] at e1 ⊢; exact ⟨ρ1,G1,hs,ts,us,ρ',r,s1,e1,hf⟩
theorem vbl_ {t:Expr} (hc:PT X t (tT c Ex fx)) (ha:PE X a (tE c Ex fa)) (hb:PE X b (tE c Ex fb)):PE X (.IfExp t a b pos) (tE c Ex (DS.ifE fx fa fb)):=(qao_ hc ha hb).imp fun σ H Q h => by
 (refine DX.x7_3 h ?_; try clear h; rintro ρ G hs ts us ρ' r s e hf)
 refine xb_ s e hf fun ρ1 x v H1 G1 e1 s1 r1 => ?_
 subst r1
 cases x with
 | true => rw [if_pos rfl] at e1 ⊢; exact ⟨ρ1,G1,hs,ts,us,ρ',r,s1,e1,hf⟩
 | false => rw [if_neg (by simp)] at e1 ⊢; exact ⟨ρ1,G1,hs,ts,us,ρ',r,s1,e1,hf⟩
theorem va_:PA X [] (tA c Ex DS.nilA):=xr_.imp fun σ H Q h => by
 (refine DX.x7_3 h ?_; try clear h; rintro ρ G hs ts us ρ' r s e hf)
 obtain ⟨rfl,rfl⟩:=xf_ e
 exact hf [] H G s .nil
theorem xa_ (ha:PE X e (tE c Ex fa)) (hr:PA X es (tA c Ex fs)) (hs:autoParam (starEach (e :: es) X.env = (false,eval e X.env) :: starEach es X.env) au1._auto_1):PA X (e :: es) (tA c Ex (DS.ya_ fa fs)):=(vj_ ha hr hs).imp fun σ H Q h => by
 (refine DX.x7_3 h ?_; try clear h; rintro ρ G hs ts us ρ' r s e hf)
 refine xb_ s e hf fun ρ1 x v H1 G1 e1 s1 r1 => ?_
 refine xb_ (s1.push r1) e1 hf.push fun ρ2 y u H2 G2 e2 s2 r2 => ?_
 obtain ⟨rfl,rfl⟩:=xf_ e2
 obtain ⟨r1',s2'⟩:=s2.pop1
 exact hf (v :: u) H2 G2 s2' (.cons r1' r2)
theorem yaa_ {xs ys:List D} (h:DS.fits xs = some ys):ys = xs ∧ xs.length ≤ sizeLine:=by
 unfold DS.fits at h
 split at h
 · cases h; exact ⟨rfl,by assumption⟩
 · cases h
theorem v7_ {k} (h:PA X es (tA c Ex fs)):PE X (.Tuple es k pos) (tE c Ex (DS.tupE fs)):=(va9_ h).imp fun σ H Q h => by
 (refine DX.x7_3 h ?_; try clear h; rintro ρ G hs ts us ρ' r s e hf)
 refine xb_ s e hf fun ρ1 x v H1 G1 e1 s1 r1 => ?_
 (refine DX.x1_3 (ub_ e1) ?_; rintro d e3 rfl rfl)
 (refine DX.x1_2 (Option.map_eq_some_iff.mp e3) ?_; rintro ys e4 rfl)
 obtain ⟨rfl,hz⟩:=yaa_ e4
 have hl:=r1.length
 refine ⟨by omega,fun p hp => ?_⟩
 have ex:=Ext.lay (o:=.tup v) s1.sub hp
 refine hf _ _ _ (s1.grow ex) ?_
 rw [Rep]
 exact ⟨p,v,rfl,SqT.of yb_,by omega,r1.mono ex.view⟩
theorem uy_ (h:PA X es (tA c Ex fs)):PE X (.List es pos) (tE c Ex (DS.lstE fs)):=(zaw_ h).imp fun σ H Q h => by
 (refine DX.x7_3 h ?_; try clear h; rintro ρ G hs ts us ρ' r s e hf)
 refine xb_ s e hf fun ρ1 x v H1 G1 e1 s1 r1 => ?_
 (refine DX.x1_3 (ub_ e1) ?_; rintro d e3 rfl rfl)
 (refine DX.x1_2 (Option.map_eq_some_iff.mp e3) ?_; rintro ys e4 rfl)
 obtain ⟨rfl,hz⟩:=yaa_ e4
 have hl:=r1.length
 refine ⟨by omega,fun p hp => ?_⟩
 have ex:=Ext.lay (o:=.lst v) s1.sub hp
 refine hf _ _ _ (s1.grow ex) ?_
 rw [Rep]
 exact ⟨p,v,rfl,SqL.of yb_,by omega,r1.mono ex.view⟩
noncomputable def spD (r:Rc) (n:Nat) (F:List D→Option (R D)):Sp:=fun vs H Q E => vs.length = n ∧ ∃ G ds x,Same G H ∧ Reps r G ds vs ∧ F ds = some x ∧ match x with
 | .ok d => ∀ v H' G',Ext G H G' H'→Rep r G' d v→Q v H'
 | .er m => ∀ H' G',Ext G H G' H'→E (.ref (r.ad m)) none H'
structure CallOk (fl:Bool) (P:Program) (w:World) (K:PySem.W.Frag) (mg:Str→Option Value) (base:Heap) (r:Rc) (x:Str) (k n:Nat) (F:List D→Option (R D)):Prop where
 ex:∃ (f:Addr) (fd:FuncData) (ps:List Str),FnOk P w K mg base (CXm P w fl) k f fd ps (spD r n F) ∧ mg x = some (.ref f) ∧ PySem.W.keepIn K (.ref f) = true ∧ y6_ K fd ps []
 len:∀ ds y,F ds = some y→ds.length = n
theorem xd_ {fl:Bool} {k n:Nat} {x:Str} {p:Pos} {F:List D→Option (R D)} (hr:Room k X.A) (hx:zm_ (CXm X.prog X.w fl) X Ex) (C:CallOk fl X.prog X.w X.K X.mg X.base c.r x k n F) (ha:PA X (e :: es) (tA c Ex fs)) (hg:autoParam (Gl X x) au1._auto_1)
   (hdb:autoParam ((x == ("__debug__":Str)) = false) au2._auto_1) (he:autoParam (starEach (e :: es) X.env = (false,eval e X.env) :: starEach es X.env) au1._auto_1) (hpl:autoParam ((backTo pos (starEach es X.env)).any (·.1) = false) au1._auto_1) :
   PE X (.Call (.Name x p) (e :: es) [] pos) (tE c Ex (DS.cal F fs)):=by
 (refine DX.x3_4 C.ex ?_; rintro f fd ps G0 hm hk hb)
 refine (vaq_ G0 hr hg hm hk hb .nil hx ha hdb he hpl).imp fun σ H Q h => ?_
 (refine DX.x7_3 h ?_; try clear h; rintro ρ G hs ts us ρ' r s e hf)
 refine xb_ s e hf fun ρ1 ds vs H1 G1 e1 s1 r1 => ?_
 rw [List.append_nil]
 cases q:F ds with
 | none => rw [q] at e1; cases e1
 | some y =>
   rw [q] at e1
   cases e1
   refine ⟨by rw [← r1.length]; exact C.len ds r q,G1,ds,r,s1.sub,r1,q,?_⟩
   cases r with
   | ok d => exact fun v H' G' ex rp => hf v H' G' (s1.grow ex) rp
   | er m => exact fun H' G' ex => hf H' G' (s1.grow ex)
theorem wq_ {x:Str} {p:Pos} {id:String} {g:List D→Option D} (hc:wo_ X (.builtin id) (rDL c.r g)) (hm:X.mg x = none) (hv:bootBuiltins x = some (.builtin id)) (ha:PA X (e :: es) (tA c Ex fs)) (hg:autoParam (Gl X x) au1._auto_1) (hn:autoParam (x ≠ "__name__") au2._auto_1) (hdb:autoParam ((x == ("__debug__":Str)) = false) au2._auto_1)
   (he:autoParam (starEach (e :: es) X.env = (false,eval e X.env) :: starEach es X.env) au1._auto_1) (hpl:autoParam ((backTo pos (starEach es X.env)).any (·.1) = false) au1._auto_1):PE X (.Call (.Name x p) (e :: es) [] pos) (tE c Ex (DS.blt g fs)):=(w9_ hc hg hm hv ha hn hdb he hpl).imp fun _ _ _ h => zak_ h
theorem d_ty {x:Str} {p:Pos} {T:String} {g:List D→Option D} (hc:wo_ X (.type T) (rDL c.r g)) (hm:X.mg x = none) (hv:bootBuiltins x = some (.type T)) (ha:PA X (e :: es) (tA c Ex fs)) (hg:autoParam (Gl X x) au1._auto_1) (hn:autoParam (x ≠ "__name__") au2._auto_1) (hdb:autoParam ((x == ("__debug__":Str)) = false) au2._auto_1)
   (he:autoParam (starEach (e :: es) X.env = (false,eval e X.env) :: starEach es X.env) au1._auto_1) (hpl:autoParam ((backTo pos (starEach es X.env)).any (·.1) = false) au1._auto_1):PE X (.Call (.Name x p) (e :: es) [] pos) (tE c Ex (DS.blt g fs)):=(xah_ hc hg hm hv ha hn hdb he hpl).imp fun _ _ _ h => zak_ h
theorem vc_:PO X none (tP c Ex (DS.part none)):=uaz_.imp fun σ H Q h => by
 (refine DX.x7_3 h ?_; try clear h; rintro ρ G hs ts us ρ' r s e hf)
 obtain ⟨rfl,rfl⟩:=xf_ e
 exact hf none H G s rfl
theorem kg_ (ha:PE X a (tE c Ex fa)):PO X (some a) (tP c Ex (DS.part (some fa))):=(qaz_ ha).imp fun σ H Q h => by
 (refine DX.x7_3 h ?_; try clear h; rintro ρ G hs ts us ρ' r s e hf)
 have e':DS.bnd fa (fun x => DS.lft ((DS.asI x).map some)) ρ = some (ρ',r):=e
 refine xb_ s e' hf fun ρ1 x v H1 G1 e1 s1 r1 => ?_
 (refine DX.x1_3 (ub_ e1) ?_; rintro d e3 rfl rfl)
 cases x with
 | int k =>
   rw [Rep] at r1
   simp [DS.asI] at e3
   subst e3
   exact ⟨k,r1,hf _ H1 G1 s1 rfl⟩
 | _ => cases e3
noncomputable def rDS (r:Rc) (g:D→Option Int→Option Int→Option D):V→Option Int→Option Int→Hp→VK→Prop:=fun x lo hi H Q => ∃ G dx d,Same G H ∧ Rep r G dx x ∧ g dx lo hi = some d ∧ ∀ v H' G',Ext G H G' H'→Rep r G' d v→Q v H'
theorem kak_ {lo hi:Option Expr} {p2:Pos} {fl fh:Option (M D)} (hr:SlR X (rDS c.r DS.slD)) (he:PE X a (tE c Ex fa)) (hl:PO X lo (tP c Ex (DS.part fl))) (hu:PO X hi (tP c Ex (DS.part fh))) :
   PE X (.Subscript a (.Slice lo hi none p2) pos) (tE c Ex (DS.slE fa fl fh)):=(j9_ hr he hl hu).imp fun σ H Q h => by
 (refine DX.x7_3 h ?_; try clear h; rintro ρ G hs ts us ρ' r s e hf)
 refine xb_ s e hf fun ρ1 x v H1 G1 e1 s1 r1 => ?_
 refine xb_ (s1.push r1) e1 hf.push fun ρ2 l l' H2 G2 e2 s2 r2 => ?_
 subst r2
 refine xb_ s2 e2 hf.push fun ρ3 h h' H3 G3 e3 s3 r3 => ?_
 subst r3
 (refine DX.x1_3 (ub_ e3) ?_; rintro d e4 rfl rfl)
 obtain ⟨r1',s3'⟩:=s3.pop1
 exact ⟨G3,x,d,s3'.sub,r1',e4,fun v' H' G' ex rp => hf v' H' G' (s3'.grow ex) rp⟩
end
end L2
namespace L2
open PySem PySem.Spec PyProof.Rows
open DS (D Sl Rho R M FS O Tg)
section
variable {X:Cx} {r:Rc}
noncomputable def ubl_ (K:PySem.W.Frag):R2:=fun x y H Q => ∃ l b xs zs,x = .ref l ∧ y = .ref b ∧ SqL K H l xs ∧ SqL K H b zs ∧ xs.length + zs.length ≤ sizeLine ∧ ∀ p,H p = none→Q (.ref p) (upd H p (.lst (xs ++ zs)))
theorem qa3_:OpR X (binaryOp .Add) (ubl_ X.K):=by
 intro pins s σ H x y v u Q I rx ry h
 (refine DX.x4_6 h ?_; try clear h; rintro l b xs zs rfl rfl hH hB hz q)
 cases rx
 cases ry
 (refine DX.x1_3 (I.list hH) ?_; rintro its r1 p1 _)
 (refine DX.x1_3 (I.list hB) ?_; rintro its2 r2 p2 _)
 (refine DX.x1_3 p1.isList ?_; rintro ⟨cls,dd,data,sl⟩ ho hc ⟨n,hd⟩)
 (refine DX.x1_3 p2.isList ?_; rintro ⟨cls2,dd2,data2,sl2⟩ ho2 hc2 ⟨n2,hd2⟩)
 simp only at hc hd hc2 hd2
 subst hc hd hc2 hd2
 have e:its.toArray ++ its2.toArray = (its ++ its2).toArray:=by simp
 refine concat_meets ⟨_,ho,rfl⟩ ⟨_,ho2,rfl⟩ noFill_list_add seq_list_add PySem.F.slot_list_add PySem.F.entry_list_add (PySem.F.args_list_add_2 _ _)
   (list_addW l b its.toArray its2.toArray n n2 dd dd2 sl sl2 (by rw [List.size_toArray,List.size_toArray,← r1.length,← r2.length]; exact hz)) ⟨ho,ho2,?_⟩
 rw [e]
 exact ⟨.ref _,_,I.lnew (t':=s.toks) (r1.append r2) (by rw [List.length_append]; exact hz),rfl,q _ I.fresh⟩
theorem za4_:OpR X (binaryOp .Add) (fun x y H Q => ∃ a b ys,x = .ref a ∧ y = .ref b ∧ SqT X.K H a [] ∧ SqT X.K H b ys ∧ Q (.ref b) H):=by
 intro pins s σ H x y v u Q I rx ry h
 (refine DX.x3_5 h ?_; try clear h; rintro a b ys rfl rfl ha hb q)
 cases rx
 cases ry
 (refine DX.x1_3 (I.tuple ha) ?_; rintro its r1 p1 _)
 (refine DX.x1_3 (I.tuple hb) ?_; rintro its2 r2 p2 _)
 cases r1
 (refine DX.x1_3 (id p1) ?_; rintro ⟨cls,dd,data,sl⟩ ho hc ⟨n,hd⟩)
 (refine DX.x1_3 (id p2) ?_; rintro ⟨cls2,dd2,data2,sl2⟩ ho2 hc2 ⟨n2,hd2⟩)
 simp only at hc hd hc2 hd2
 subst hc hd hc2 hd2
 exact concat_meets ⟨_,ho,rfl⟩ ⟨_,ho2,rfl⟩ noFill_tuple_add seq_tuple_add PySem.F.slot_tuple_add PySem.F.entry_tuple_add (PySem.F.args_tuple_add_2 _ _)
   (tuple_addW0 a b _ _ n n2 dd dd2 sl sl2 rfl) ⟨ho,ho2,⟨.ref b,H,I,rfl,q⟩⟩
theorem zc_ (hK:autoParam (X.K = r.K) au1._auto_1):OpR X (binaryOp .Add) (rD r DS.addD):=by
 intro pins s σ H x y v u Q I rx ry ⟨G,dx,dy,d,sub,hx,hy,e,q⟩
 cases dx with
 | int i =>
   cases dy with
   | int j =>
     rw [Rep] at hx; rw [Rep] at hy
     delta DS.addD at e; dsimp only at e
     cases e
     exact qa8_ pins s σ H x y v u Q I rx ry ⟨i,j,hx,hy,q _ H G (Ext.refl sub) (by rw [Rep])⟩
   | _ => cases e
 | lst xs =>
   cases dy with
   | lst ys =>
     rw [Rep] at hx; rw [Rep] at hy
     (refine DX.x2_4 hx ?_; try clear hx; rintro a vs ea qa la ta)
     (refine DX.x2_4 hy ?_; try clear hy; rintro b ws eb qb lb tb)
     delta DS.addD at e; dsimp only at e
     split at e
     · rename_i hz
       cases e
       have l1:=ta.length
       have l2:=tb.length
       refine qa3_ pins s σ H x y v u Q I rx ry ⟨a,b,vs,ws,ea,eb,by rw [hK]; exact sub.seq qa,by rw [hK]; exact sub.seq qb,by omega,fun p hp => ?_⟩
       have ex:=Ext.lay (o:=.lst (vs ++ ws)) sub hp
       refine q _ _ _ ex ?_
       rw [Rep]
       exact ⟨p,vs ++ ws,rfl,SqL.of yb_,by rw [List.length_append]; omega,(ta.append tb).mono ex.view⟩
     · cases e
   | _ => cases e
 | tup xs =>
   cases dy with
   | tup ys =>
     have hy':=hy
     rw [Rep] at hx; rw [Rep] at hy
     (refine DX.x2_4 hx ?_; try clear hx; rintro a vs ea qa la ta)
     (refine DX.x2_4 hy ?_; try clear hy; rintro b ws eb qb lb tb)
     have l1:=ta.length
     have l2:=tb.length
     delta DS.addD at e; dsimp only at e
     split at e
     · rename_i hz
       cases e
       cases vs with
       | nil =>
         cases xs with
         | nil =>
           refine za4_ pins s σ H x y v u Q I rx ry ⟨a,b,ws,ea,eb,by rw [hK]; exact sub.seqT qa,by rw [hK]; exact sub.seqT qb,q _ H G (Ext.refl sub) ?_⟩
           rw [← eb]; exact hy'
         | cons _ _ => simp at l1
       | cons v0 vs =>
         refine za0_ pins s σ H x y v u Q I rx ry ⟨a,b,v0 :: vs,ws,ea,eb,by rw [hK]; exact sub.seqT qa,by rw [hK]; exact sub.seqT qb,by simp,by omega,fun z => ?_,fun _ p hp => ?_⟩
         · subst z
           have:ys = []:=by cases ys with | nil => rfl | cons _ _ => simp at l2
           subst this
           refine q _ H G (Ext.refl sub) ?_
           rw [Rep,List.append_nil]
           exact ⟨a,v0 :: vs,rfl,qa,la,ta⟩
         · have ex:=Ext.lay (o:=.tup (v0 :: vs ++ ws)) sub hp
           refine q _ _ _ ex ?_
           rw [Rep]
           exact ⟨p,v0 :: vs ++ ws,rfl,SqT.of yb_,by rw [List.length_append]; omega,(ta.append tb).mono ex.view⟩
     · cases e
   | _ => cases e
 | str a =>
   cases dy with
   | str b =>
     rw [Rep] at hx; rw [Rep] at hy
     delta DS.addD at e; dsimp only at e
     split at e
     · rename_i hz
       cases e
       exact uac_ pins s σ H x y v u Q I rx ry ⟨a,b,hx,hy,hz,q _ H G (Ext.refl sub) (by rw [Rep])⟩
     · cases e
   | _ => cases e
 | _ => cases e
theorem kbd_ {f:Value→Value→Sem Value} {C:Int→Int→Prop} {g:Int→Int→V} {h:D→D→Option D} (ho:OpR X f (rI C g))
   (hh:∀ dx dy d,h dx dy = some d→∃ i j,dx = .int i ∧ dy = .int j ∧ C i j ∧ ∀ G,Rep r G d (g i j)):OpR X f (rD r h):=by
 intro pins s σ H x y v u Q I rx ry ⟨G,dx,dy,d,sub,hx,hy,e,q⟩
 (refine DX.x2_4 (hh dx dy d e) ?_; rintro i j rfl rfl hc hr)
 rw [Rep] at hx; rw [Rep] at hy
 exact ho pins s σ H x y v u Q I rx ry ⟨i,j,hx,hy,hc,q _ H G (Ext.refl sub) (hr G)⟩
theorem vak_ {f:Value→Value→Sem Value} {g:Int→Int→V} {h:D→D→Option D} (ho:OpR X f (rI0 g))
   (hh:∀ dx dy d,h dx dy = some d→∃ i j,dx = .int i ∧ dy = .int j ∧ ∀ G,Rep r G d (g i j)):OpR X f (rD r h):=by
 intro pins s σ H x y v u Q I rx ry ⟨G,dx,dy,d,sub,hx,hy,e,q⟩
 (refine DX.x2_3 (hh dx dy d e) ?_; rintro i j rfl rfl hr)
 rw [Rep] at hx; rw [Rep] at hy
 exact ho pins s σ H x y v u Q I rx ry ⟨i,j,hx,hy,q _ H G (Ext.refl sub) (hr G)⟩
theorem vbd_:OpR X (binaryOp .Sub) (rD r DS.subD):=vak_ za9_ fun dx dy d e => by
 cases dx with
 | int i =>
   cases dy with
   | int j => delta DS.subD at e; dsimp only at e; cases e; exact ⟨i,j,rfl,rfl,fun G => by rw [Rep]⟩
   | _ => cases e
 | _ => cases e
theorem xaa_:OpR X (binaryOp .FloorDiv) (rD r DS.fdvD):=kbd_ xaz_ fun dx dy d e => by
 cases dx with
 | int i =>
   cases dy with
   | int j =>
     delta DS.fdvD at e; dsimp only at e
     split at e
     · rename_i hc; cases e; simp at hc; exact ⟨i,j,rfl,rfl,hc,fun G => by rw [Rep]⟩
     · cases e
   | _ => cases e
 | _ => cases e
theorem uh_:OpR X (binaryOp .Mod) (rD r DS.modD):=kbd_ xa9_ fun dx dy d e => by
 cases dx with
 | int i =>
   cases dy with
   | int j =>
     delta DS.modD at e; dsimp only at e
     split at e
     · rename_i hc; cases e; exact ⟨i,j,rfl,rfl,hc,fun G => by rw [Rep]⟩
     · cases e
   | _ => cases e
 | _ => cases e
noncomputable def qbl_ (K:PySem.W.Frag):R2:=fun x y H Q => ∃ l k xs,x = .ref l ∧ y = .int k ∧ SqL K H l xs ∧ -(2 ^ 63) ≤ k ∧ k < 2 ^ 63 ∧ xs.length * k.toNat ≤ sizeLine ∧
 ∀ p,H p = none→Q (.ref p) (upd H p (.lst (List.replicate k.toNat xs).flatten))
theorem ya4_:OpR X (binaryOp .Mult) (qbl_ X.K):=by
 intro pins s σ H x y v u Q I rx ry h
 (refine DX.x3_7 h ?_; try clear h; rintro l k xs rfl rfl hH h1 h2 hz q)
 cases rx
 obtain ⟨t,rfl⟩:=ry
 (refine DX.x1_3 (I.list hH) ?_; rintro its r1 p1 _)
 have hl:=r1.length
 (refine DX.x1_3 p1.isList ?_; rintro ⟨cls,d,data,sl⟩ ho hcl ⟨n,hd⟩)
 simp only at hcl hd
 subst hcl hd
 have hz':its.toArray.size * k.toNat ≤ 2 ^ 24:=by rw [List.size_toArray,← hl]; exact hz
 refine wpAny_binaryOp_repeat_ref (T:="list") (U:="int") (by decide) ⟨_,ho,rfl⟩ (fun s' => typeIs_int s' k t) noFill_list_mul F.fills_int_mul F.slot_int_rmul repeat_list F.slot_int_index.lookup
   (call_meets F.slot_int_rmul (typeIs_int s k t) F.entry_int_rmul (F.args_int_rmul_2 _ _) (lm_int_rmul_list_any k t l its.toArray n d sl)
     ⟨ho,rfl,⟨_,ho,rfl⟩,call_meets F.slot_list_mul ⟨_,ho,rfl⟩ F.entry_list_mul (F.args_list_mul_2 _ _)
       (lm_list_mul_any l its.toArray n d sl k t (by simp [Builtin.List.listFitsIndex]; omega) (by omega) (by simp [Builtin.List.listTooLong,sizeLine] at hz' ⊢; omega))
       ⟨ho,?_⟩⟩)
 rw [listMul_foldl_if]
 exact ⟨.ref _,_,I.lnew (t':=s.toks) (r1.rep k.toNat) (by rw [vah_,Nat.mul_comm]; exact hz),rfl,q _ I.fresh⟩
theorem waa_ (hK:autoParam (X.K = r.K) au1._auto_1):OpR X (binaryOp .Mult) (rD r DS.mulD):=by
 intro pins s σ H x y v u Q I rx ry ⟨G,dx,dy,d,sub,hx,hy,e,q⟩
 cases dx with
 | int i =>
   cases dy with
   | int j =>
     rw [Rep] at hx; rw [Rep] at hy
     delta DS.mulD at e; dsimp only at e
     split at e
     · rename_i hc
       cases e
       refine ya9_ pins s σ H x y v u Q I rx ry ⟨i,j,hx,hy,?_,q _ H G (Ext.refl sub) (by rw [Rep])⟩
       unfold DS.x7_ at hc
       simp only [Bool.or_eq_true,Bool.and_eq_true,decide_eq_true_eq] at hc
       exact hc
     · cases e
   | _ => cases e
 | lst xs =>
   cases dy with
   | int k =>
     rw [Rep] at hx; rw [Rep] at hy
     (refine DX.x2_4 hx ?_; try clear hx; rintro a vs ea qa la ta)
     have l1:=ta.length
     delta DS.mulD at e; dsimp only at e
     split at e
     · rename_i hc
       cases e
       simp only [Bool.and_eq_true,decide_eq_true_eq] at hc
       obtain ⟨⟨h1,h2⟩,h3⟩:=hc
       refine ya4_ pins s σ H x y v u Q I rx ry ⟨a,k,vs,ea,hy,by rw [hK]; exact sub.seq qa,h1,h2,by rw [← l1]; exact h3,fun p hp => ?_⟩
       have ex:=Ext.lay (o:=.lst (List.replicate k.toNat vs).flatten) sub hp
       refine q _ _ _ ex ?_
       rw [Rep]
       exact ⟨p,_,rfl,SqL.of yb_,by rw [vah_,Nat.mul_comm,← l1]; exact h3,(ta.flat _).mono ex.view⟩
     · cases e
   | _ => cases e
 | _ => cases e
theorem ubd_:UnR X (unaryOp .USub) (rD1 r DS.negD):=by
 intro pins s σ H x v Q I rx ⟨G,dx,d,sub,hx,e,q⟩
 cases dx with
 | int i =>
   rw [Rep] at hx
   delta DS.negD at e; dsimp only at e
   cases e
   exact uav_ pins s σ H x v Q I rx ⟨i,hx,q _ H G (Ext.refl sub) (by rw [Rep])⟩
 | _ => cases e
theorem zbm_ {c:Db} {Ex:St→XK} {a:Expr} {fa:M D} {pos:Pos} (ha:PE X a (tE c Ex fa)):PE X (.UnaryOp .USub a pos) (tE c Ex (DS.op1 DS.negD fa)):=d_un ubd_ ha
theorem jaa_:∀ a b:List Int,DS.lexLt a b = HT.lexLt a b
 | [],[] => rfl
 | [],_ :: _ => rfl
 | _ :: _,[] => rfl
 | x :: xs,y :: ys => by rw [DS.lexLt,HT.vu_,jaa_ xs ys]
theorem xa4_ (hu:X.A.units < cLine) (hK:autoParam (X.K = r.K) au1._auto_1):OpR X (compareOp .Lt) (rD r DS.ltF):=by
 intro pins s σ H x y v u Q I rx ry ⟨G,dx,dy,d,sub,hx,hy,e,q⟩
 cases dx with
 | int i =>
   cases dy with
   | int j =>
     rw [Rep] at hx; rw [Rep] at hy
     delta DS.ltF at e; dsimp only at e
     cases e
     exact wbi_ pins s σ H x y v u Q I rx ry ⟨i,j,hx,hy,q _ H G (Ext.refl sub) (by rw [Rep])⟩
   | _ => cases e
 | tup xs =>
   cases dy with
   | tup ys =>
     rw [Rep] at hx; rw [Rep] at hy
     (refine DX.x2_4 hx ?_; try clear hx; rintro a vs ea qa la ta)
     (refine DX.x2_4 hy ?_; try clear hy; rintro b ws eb qb lb tb)
     delta DS.ltF at e; dsimp only at e
     split at e
     · rename_i ns ms e1 e2
       cases e
       rw [ta.ints e1] at qa
       rw [tb.ints e2] at qb
       exact yba_ hu pins s σ H x y v u Q I rx ry ⟨a,b,ns,ms,ea,eb,by rw [hK]; exact sub.seqT qa,by rw [hK]; exact sub.seqT qb,q _ H G (Ext.refl sub) (by rw [Rep,jaa_])⟩
     · cases e
   | _ => cases e
 | _ => cases e
theorem wa4_ (hu:X.A.units < cLine):OpR X (compareOp .LtE) (rD r DS.leF):=vak_ jbi_ fun dx dy d e => by
 cases dx with
 | int i =>
   cases dy with
   | int j => delta DS.leF at e; dsimp only at e; cases e; exact ⟨i,j,rfl,rfl,fun G => by rw [Rep]⟩
   | _ => cases e
 | _ => cases e
theorem ja4_ (hu:X.A.units < cLine):OpR X (compareOp .Gt) (rD r DS.gtF):=vak_ kbi_ fun dx dy d e => by
 cases dx with
 | int i =>
   cases dy with
   | int j => delta DS.gtF at e; dsimp only at e; cases e; exact ⟨i,j,rfl,rfl,fun G => by rw [Rep]⟩
   | _ => cases e
 | _ => cases e
theorem vf_ (hK:autoParam (X.K = r.K) au1._auto_1):IxR X (rD r DS.ixD):=by
 intro value slice pins s σ H x y v u Q I rx ry ⟨G,dx,dy,d,sub,hx,hy,e,q⟩ hs
 cases dx with
 | lst xs =>
   cases dy with
   | int i =>
     rw [Rep] at hx; rw [Rep] at hy
     (refine DX.x2_4 hx ?_; try clear hx; rintro a vs ea qa la ta)
     have e':DS.atI xs i = some d:=e
     (refine DX.x1_2 (ta.atI e') ?_; rintro z z1 z2)
     exact xa0_ value slice pins s σ H x y v u Q I rx ry ⟨a,vs,i,z,ea,hy,by rw [hK]; exact sub.seq qa,z1,q _ H G (Ext.refl sub) z2⟩ hs
   | _ => cases e
 | tup xs =>
   cases dy with
   | int i =>
     rw [Rep] at hx; rw [Rep] at hy
     (refine DX.x2_4 hx ?_; try clear hx; rintro a vs ea qa la ta)
     have e':DS.atI xs i = some d:=e
     (refine DX.x1_2 (ta.atI e') ?_; rintro z z1 z2)
     exact xba_ value slice pins s σ H x y v u Q I rx ry ⟨a,vs,i,z,ea,hy,by rw [hK]; exact sub.seqT qa,z1,q _ H G (Ext.refl sub) z2⟩ hs
   | _ => cases e
 | _ => cases e
theorem u2_ (hK:autoParam (X.K = r.K) au1._auto_1):wo_ X (.builtin "len") (rDL r DS.lenF):=by
 intro pins s σ H xs us Q I rs ⟨G,ds,d,sub,hx,e,q⟩
 match ds,e with
 | [.lst ys],e =>
   (refine DX.x2_3 hx.cons_inv ?_; rintro v t rfl hv ht)
   cases ht.nil_inv
   rw [Rep] at hv
   (refine DX.x2_4 hv ?_; try clear hv; rintro a vs rfl qa la ta)
   delta DS.lenF at e; dsimp only at e
   cases e
   exact wp_ pins s σ H _ us Q I rs ⟨a,vs,rfl,.inl (by rw [hK]; exact sub.seq qa),q _ H G (Ext.refl sub) (by rw [Rep,ta.length])⟩
 | [.tup ys],e =>
   (refine DX.x2_3 hx.cons_inv ?_; rintro v t rfl hv ht)
   cases ht.nil_inv
   rw [Rep] at hv
   (refine DX.x2_4 hv ?_; try clear hv; rintro a vs rfl qa la ta)
   delta DS.lenF at e; dsimp only at e
   cases e
   exact wp_ pins s σ H _ us Q I rs ⟨a,vs,rfl,.inr (by rw [hK]; exact sub.seqT qa),q _ H G (Ext.refl sub) (by rw [Rep,ta.length])⟩
theorem ws_:∀ {bs:List Bool} {us:List Value},Vals (bs.map V.bl) us→LSm.BoolsAre us bs
 | [],_,h => by cases h; exact .nil
 | b :: bs,_,h => by
   cases h with
   | cons r t => cases r; exact .cons _ (ws_ t)
theorem kaa_ (hc:X.calm = true) (hK:autoParam (X.K = r.K) au1._auto_1):wo_ X (.builtin "all") (rDL r DS.allF):=by
 intro pins s σ H xs us Q I rs ⟨G,ds,d,sub,hx,e,q⟩
 match ds,e with
 | [.lst ys],e =>
   (refine DX.x2_3 hx.cons_inv ?_; rintro v t rfl hv ht)
   cases ht.nil_inv
   rw [Rep] at hv
   (refine DX.x2_4 hv ?_; try clear hv; rintro a vs rfl qa la ta)
   delta DS.allF at e; dsimp only at e
   (refine DX.x1_2 (Option.map_eq_some_iff.mp e) ?_; rintro bs e1 rfl)
   have ev:=ta.bools e1
   (refine DX.x1_2 (yq_ rs) ?_; rintro u rfl rx)
   cases rx
   (refine DX.x1_3 (I.list (xs:=vs) (by rw [hK]; exact sub.seq qa)) ?_; rintro its r1 p1 _)
   have hb:LSm.BoolsAre its bs:=ws_ (by rw [← ev]; exact r1)
   have hl:=p1.isList
   have hlt:a < s.heap.objs.size:=by (refine DX.x1_2 hl ?_; try clear hl; rintro _ e _); exact Heap.lt_size e
   refine call_all_walk (wpAny_pyIter_list hl ?_)
   refine ⟨s.heap.objs.size,[s.heap.objs.size,a],[s.heap.objs.size],its.toArray.size,_,_,fun i => (bs[i]?).getD true,rfl,Walks.list (A:=X.A.in1) (I.ok.hd hc) _ a (Nat.ne_of_lt hlt) its.toArray,
     ⟨⟨_,Heap.get?_push_size _ rfl,rfl,rfl⟩,hl.push _⟩,fun i v s' Q' E' hP hQ => ?_,fun h' tk hk => ?_⟩
   · (refine DX.x1_2 (hb.get i v (by simpa using hP)) ?_; rintro b e rfl)
     simp only [e,Option.getD_some] at hQ
     exact wpAny_truthy_bool hQ
   · have e:((List.range its.toArray.size).all fun i => (bs[i]?).getD true) = bs.all id:=by
       rw [List.size_toArray,hb.length]; exact LSm.range_all bs
     rw [e]
     exact ⟨.bl (bs.all id),H,I.kept (LSm.kept_iter hk),rfl,q _ H G (Ext.refl sub) (by rw [Rep])⟩
end
end L2
namespace L2
open PySem PySem.Spec PyProof.Rows
open DS (D Sl Rho R M FS O Tg)
noncomputable def sc:D→Option V
 | .non => some .non
 | .bl b => some (.bl b)
 | .int i => some (.int i)
 | .str x => some (.str x)
 | _ => none
theorem yax_ {r:Rc} {G:Hp} {d:D} {v w:V} (h:sc d = some w) (q:Rep r G d v):v = w:=by
 cases d <;> simp [sc] at h <;> rw [Rep] at q <;> rw [q,h]
theorem qbd_ {d e:D} {w:V} (h:sc d = some w) (h':sc e = some w):d = e:=by
 cases d <;> simp [sc] at h <;> subst h <;> cases e <;> simp [sc] at h' <;> simp [h']
section
variable {X:Cx} {r:Rc} {pins:List (Addr × Obj)} {σ:St} {H G:Hp} {s:Shared}
theorem zbe_ {a:Addr} {xs ys:List V} (I:Inv X pins σ H s) (h:SqL X.K H a xs) (h':SqT X.K H a ys):False:=by
 (refine DX.x1_3 (I.list h) ?_; rintro _ _ ⟨o,n,e,c,_⟩ _)
 (refine DX.x1_3 (I.tuple h') ?_; rintro _ _ ⟨o',e',c',_⟩ _)
 rw [e] at e'; cases e'
 rw [c] at c'
 injection c' with z
 exact absurd z (by decide)
mutual
theorem Rep.inj (I:Inv X pins σ H s) (hK:X.K = r.K) (sub:Same G H):∀ {d e:D} {v:V},(DS.dep d).isSome = true→(DS.dep e).isSome = true→Rep r G d v→Rep r G e v→d = e
 | .non,e,v,_,he,hd,h => vaa_ I hK (d:=.non) rfl he hd h
 | .bl b,e,v,_,he,hd,h => vaa_ I hK (d:=.bl b) rfl he hd h
 | .int i,e,v,_,he,hd,h => vaa_ I hK (d:=.int i) rfl he hd h
 | .str x,e,v,_,he,hd,h => vaa_ I hK (d:=.str x) rfl he hd h
 | .lst xs,e,v,dd,he,hd,h => by
   rw [Rep] at hd
   (refine DX.x2_4 hd ?_; try clear hd; rintro a vs rfl qa la ta)
   cases e with
   | lst ys =>
     rw [Rep] at h
     (refine DX.x2_4 h ?_; try clear h; rintro b ws eb qb lb tb)
     cases eb
     have:=I.list_inj (by rw [hK]; exact sub.seq qa) (by rw [hK]; exact sub.seq qb)
     subst this
     rw [DS.dep] at dd he
     rw [Reps.inj I hK sub (by simpa using dd) (by simpa using he) ta tb]
   | tup ys =>
     rw [Rep] at h
     (refine DX.x2_4 h ?_; try clear h; rintro b ws eb qb lb tb)
     cases eb
     exact (zbe_ I (by rw [hK]; exact sub.seq qa) (by rw [hK]; exact sub.seqT qb)).elim
   | set _ => simp [DS.dep] at he
   | exc _ => simp [DS.dep] at he
   | _ => rw [Rep] at h; cases h
 | .tup xs,e,v,dd,he,hd,h => by
   rw [Rep] at hd
   (refine DX.x2_4 hd ?_; try clear hd; rintro a vs rfl qa la ta)
   cases e with
   | tup ys =>
     rw [Rep] at h
     (refine DX.x2_4 h ?_; try clear h; rintro b ws eb qb lb tb)
     cases eb
     have:=I.tuple_inj (by rw [hK]; exact sub.seqT qa) (by rw [hK]; exact sub.seqT qb)
     subst this
     rw [DS.dep] at dd he
     rw [Reps.inj I hK sub (by simpa using dd) (by simpa using he) ta tb]
   | lst ys =>
     rw [Rep] at h
     (refine DX.x2_4 h ?_; try clear h; rintro b ws eb qb lb tb)
     cases eb
     exact (zbe_ I (by rw [hK]; exact sub.seq qb) (by rw [hK]; exact sub.seqT qa)).elim
   | set _ => simp [DS.dep] at he
   | exc _ => simp [DS.dep] at he
   | _ => rw [Rep] at h; cases h
 | .set _,_,_,dd,_,_,_ => by simp [DS.dep] at dd
 | .exc _,_,_,dd,_,_,_ => by simp [DS.dep] at dd
theorem vaa_ (I:Inv X pins σ H s) (hK:X.K = r.K) {d e:D} {v w:V} (h:sc d = some w) (he:(DS.dep e).isSome = true) (hd:Rep r G d v) (h':Rep r G e v):d = e:=by
 have:=yax_ h hd
 subst this
 cases q:sc e with
 | some w' => rw [yax_ q h'] at h; exact qbd_ h q
 | none =>
   cases e with
   | lst ys => rw [Rep] at h'; (refine DX.x2_2 h' ?_; try clear h'; rintro b ws rfl _); cases d <;> simp [sc] at h
   | tup ys => rw [Rep] at h'; (refine DX.x2_2 h' ?_; try clear h'; rintro b ws rfl _); cases d <;> simp [sc] at h
   | set _ => simp [DS.dep] at he
   | exc _ => simp [DS.dep] at he
   | _ => simp [sc] at q
theorem Reps.inj (I:Inv X pins σ H s) (hK:X.K = r.K) (sub:Same G H):∀ {ds es:List D} {vs:List V},(DS.deps ds).isSome = true→(DS.deps es).isSome = true→Reps r G ds vs→Reps r G es vs→ds = es
 | [],es,vs,_,_,h,h' => by
   rw [h.nil_inv] at h'
   cases es with
   | nil => rfl
   | cons _ _ => (refine DX.x2_2 h'.cons_inv ?_; rintro _ _ e _); cases e
 | d :: ds,es,vs,dd,de,h,h' => by
   (refine DX.x2_3 h.cons_inv ?_; rintro v t rfl q z)
   cases es with
   | nil => have:=h'.nil_inv; cases this
   | cons e es =>
     (refine DX.x2_3 h'.cons_inv ?_; rintro v' t' e' q' z')
     cases e'
     rw [DS.deps] at dd de
     have d1:(DS.dep d).isSome = true ∧ (DS.deps ds).isSome = true:=by
       cases h1:DS.dep d <;> cases h2:DS.deps ds <;> simp [h1,h2] at dd ⊢
     have d2:(DS.dep e).isSome = true ∧ (DS.deps es).isSome = true:=by
       cases h1:DS.dep e <;> cases h2:DS.deps es <;> simp [h1,h2] at de ⊢
     rw [Rep.inj I hK sub d1.1 d2.1 q q',Reps.inj I hK sub d1.2 d2.2 z z']
end
theorem vd_ {ds:List D} {n:Nat} (h:DS.deps ds = some n) {i:Nat} {d:D} (e:ds[i]? = some d):∃ k,DS.dep d = some k ∧ k ≤ n:=by
 induction ds generalizing n i with
 | nil => simp at e
 | cons x xs ih =>
   rw [DS.deps] at h
   cases h1:DS.dep x with
   | none => simp [h1] at h
   | some a =>
     cases h2:DS.deps xs with
     | none => simp [h1,h2] at h
     | some b =>
       simp [h1,h2] at h
       cases i with
       | zero => simp at e; subst e; exact ⟨a,h1,by omega⟩
       | succ i =>
         (refine DX.x1_2 (ih h2 (i:=i) (by simpa using e)) ?_; rintro k q1 q2)
         exact ⟨k,q1,by omega⟩
theorem vk_:∀ (ds es:List D),DS.eqDs ds es = ((List.range (min ds.length es.length)).all (fun j => DS.eqD (ds.getD j .non) (es.getD j .non)) && (ds.length == es.length))
 | [],[] => by simp [DS.eqDs]
 | [],_ :: _ => by simp [DS.eqDs]
 | _ :: _,[] => by simp [DS.eqDs]
 | x :: xs,y :: ys => by
   have ih:=vk_ xs ys
   rw [DS.xaw_,ih]
   simp only [List.length_cons]
   rw [show min (xs.length + 1) (ys.length + 1) = min xs.length ys.length + 1 by omega,List.range_succ_eq_map,List.all_cons,List.all_map]
   have e2:(xs.length + 1 == ys.length + 1) = (xs.length == ys.length):=by
     by_cases h:xs.length = ys.length <;> simp [h]
   rw [e2,← Bool.and_assoc]
   rfl
theorem uk_ {A:Around} {ds es:List D} {vs ws:List V} {its its2:List Value} (td:Reps r G ds vs) (te:Reps r G es ws) (r1:Vals vs its) (r2:Vals ws its2)
   (ih:∀ (i:Nat) d e x y u v,ds[i]? = some d→es[i]? = some e→Rep r G d x→Rep r G e y→RelV x u→RelV y v→SeqAt.EqAt A s u v (DS.eqD d e)) :
   ∀ j (h1:j < its.toArray.size) (h2:j < its2.toArray.size),SeqAt.EqAt A s its.toArray[j] its2.toArray[j] (DS.eqD (ds.getD j .non) (es.getD j .non)):=fun j h1 h2 => by
 have l1:=r1.length
 have l2:=r2.length
 simp only [List.size_toArray] at h1 h2
 have v1:vs[j]? = some vs[j]:=by simp [show j < vs.length by omega]
 have v2:ws[j]? = some ws[j]:=by simp [show j < ws.length by omega]
 (refine DX.x1_2 (td.get_of v1) ?_; rintro d d1 d2)
 (refine DX.x1_2 (te.get_of v2) ?_; rintro e e1 e2)
 (refine DX.x1_2 (r1.get v1) ?_; rintro u u1 u2)
 (refine DX.x1_2 (r2.get v2) ?_; rintro w w1 w2)
 have f1:its.toArray[j] = u:=by
   have:=List.getElem?_eq_some_iff.mp u1
   obtain ⟨_,q⟩:=this
   simpa using q
 have f2:its2.toArray[j] = w:=by
   have:=List.getElem?_eq_some_iff.mp w1
   obtain ⟨_,q⟩:=this
   simpa using q
 rw [f1,f2,List.getD_eq_getElem?_getD,List.getD_eq_getElem?_getD,d1,e1]
 exact ih j d e _ _ u w d1 e1 d2 e2 u2 w2
theorem u7_ {ds es:List D} {its its2:List Value} (l1:ds.length = its.length) (l2:es.length = its2.length):((List.range (min its.toArray.size its2.toArray.size)).all (fun j => DS.eqD (ds.getD j .non) (es.getD j .non)) && its.toArray.size == its2.toArray.size) = DS.eqDs ds es:=by
 rw [vk_,List.size_toArray,List.size_toArray,l1,l2]
theorem qy_ {ds es:List D} {its its2:List Value} (l1:ds.length = its.length) (l2:es.length = its2.length) (hsz:its.toArray.size = its2.toArray.size):(List.range its.toArray.size).all (fun j => DS.eqD (ds.getD j .non) (es.getD j .non)) = DS.eqDs ds es:=by
 rw [List.size_toArray,List.size_toArray] at hsz
 rw [vk_,List.size_toArray,l1,l2,hsz,Nat.min_self]
 simp
theorem zz_ {ds es:List D} {its its2:List Value} (l1:ds.length = its.length) (l2:es.length = its2.length) (hsz:¬ its.toArray.size = its2.toArray.size):DS.eqDs ds es = false:=by
 rw [List.size_toArray,List.size_toArray] at hsz
 rw [vk_,l1,l2]
 simp [hsz]
theorem q2_ (I:Inv X pins σ H s) (hK:X.K = r.K) (sub:Same G H):∀ (n:Nat) (d e:D) (k:Nat),DS.dep d = some k→k ≤ n→(DS.dep e).isSome = true→∀ (A:Around) (x y:V) (u v:Value),A.units + n < cLine→Rep r G d x→Rep r G e y→RelV x u→RelV y v→SeqAt.EqAt A s u v (DS.eqD d e):=by
 intro n
 induction n with
 | zero =>
   intro d e k hd hk he A x y u v hu hx hy rx ry
   have hu0:A.units < cLine:=by omega
   have lst0:∀ {xs:List D} {y:V} {v:Value},Rep r G (.lst xs) y→RelV y v→∃ a ja_,v = .ref a ∧ s.heap.IsList a ja_:=fun h q => by
     rw [Rep] at h
     (refine DX.x2_3 h ?_; try clear h; rintro a vs rfl qa _)
     cases q
     (refine DX.x1_3 (I.list (by rw [hK]; exact sub.seq qa)) ?_; rintro its _ p _)
     exact ⟨a,_,rfl,p.isList⟩
   have tup0:∀ {xs:List D} {y:V} {v:Value},Rep r G (.tup xs) y→RelV y v→∃ a ja_,v = .ref a ∧ s.heap.IsTuple a ja_:=fun h q => by
     rw [Rep] at h
     (refine DX.x2_3 h ?_; try clear h; rintro a vs rfl qa _)
     cases q
     (refine DX.x1_3 (I.tuple (by rw [hK]; exact sub.seqT qa)) ?_; rintro its _ p _)
     exact ⟨a,_,rfl,p⟩
   cases d with
   | non =>
     rw [Rep] at hx; subst hx; cases rx
     cases e with
     | non => rw [Rep] at hy; subst hy; cases ry; exact .same _
     | bl b => rw [Rep] at hy; subst hy; cases ry; exact .none_bool b
     | int i => rw [Rep] at hy; subst hy; obtain ⟨t,rfl⟩:=ry; exact .none_int i t
     | str i => rw [Rep] at hy; subst hy; obtain ⟨t,rfl⟩:=ry; exact .none_str i t
     | lst _ => (refine DX.x2_2 (lst0 hy ry) ?_; rintro a its rfl h); exact .none_list h hu0
     | tup _ => (refine DX.x2_2 (tup0 hy ry) ?_; rintro a its rfl h); exact .none_tuple h hu0
     | set _ => simp [DS.dep] at he
     | exc _ => simp [DS.dep] at he
   | bl b =>
     rw [Rep] at hx; subst hx; cases rx
     cases e with
     | non => rw [Rep] at hy; subst hy; cases ry; exact .bool_none b
     | bl b' => rw [Rep] at hy; subst hy; cases ry; exact .bool_bool b b'
     | int i => rw [Rep] at hy; subst hy; obtain ⟨t,rfl⟩:=ry; exact .bool_int b i t
     | str i => rw [Rep] at hy; subst hy; obtain ⟨t,rfl⟩:=ry; exact .bool_str b i t
     | lst _ => (refine DX.x2_2 (lst0 hy ry) ?_; rintro a its rfl h); exact .bool_list b h hu0
     | tup _ => (refine DX.x2_2 (tup0 hy ry) ?_; rintro a its rfl h); exact .bool_tuple b h hu0
     | set _ => simp [DS.dep] at he
     | exc _ => simp [DS.dep] at he
   | int i =>
     rw [Rep] at hx; subst hx; obtain ⟨t0,rfl⟩:=rx
     cases e with
     | non => rw [Rep] at hy; subst hy; cases ry; exact .int_none i t0
     | bl b' => rw [Rep] at hy; subst hy; cases ry; exact .int_bool i t0 b'
     | int j => rw [Rep] at hy; subst hy; obtain ⟨t,rfl⟩:=ry; exact .int_int i t0 j t
     | str j => rw [Rep] at hy; subst hy; obtain ⟨t,rfl⟩:=ry; exact .int_str i t0 j t
     | lst _ => (refine DX.x2_2 (lst0 hy ry) ?_; rintro a its rfl h); exact .int_list i t0 h hu0
     | tup _ => (refine DX.x2_2 (tup0 hy ry) ?_; rintro a its rfl h); exact .int_tuple i t0 h hu0
     | set _ => simp [DS.dep] at he
     | exc _ => simp [DS.dep] at he
   | str i =>
     rw [Rep] at hx; subst hx; obtain ⟨t0,rfl⟩:=rx
     cases e with
     | non => rw [Rep] at hy; subst hy; cases ry; exact .str_none i t0
     | bl b' => rw [Rep] at hy; subst hy; cases ry; exact .str_bool i t0 b'
     | int j => rw [Rep] at hy; subst hy; obtain ⟨t,rfl⟩:=ry; exact .str_int i t0 j t
     | str j => rw [Rep] at hy; subst hy; obtain ⟨t,rfl⟩:=ry; exact .str_str i t0 j t
     | lst _ => (refine DX.x2_2 (lst0 hy ry) ?_; rintro a its rfl h); exact .str_list i t0 h hu0
     | tup _ => (refine DX.x2_2 (tup0 hy ry) ?_; rintro a its rfl h); exact .str_tuple i t0 h hu0
     | set _ => simp [DS.dep] at he
     | exc _ => simp [DS.dep] at he
   | lst xs => rw [DS.dep] at hd; (refine DX.x1_2 (Option.map_eq_some_iff.mp hd) ?_; rintro m _ rfl); omega
   | tup xs => rw [DS.dep] at hd; (refine DX.x1_2 (Option.map_eq_some_iff.mp hd) ?_; rintro m _ rfl); omega
   | set _ => simp [DS.dep] at hd
   | exc _ => simp [DS.dep] at hd
 | succ n ih =>
   intro d e k hd hk he A x y u v hu hx hy rx ry
   by_cases hk0:k ≤ n
   · exact ih d e k hd hk0 he A x y u v (by omega) hx hy rx ry
   have hu0:A.units < cLine:=by omega
   have hu1:A.in1.units + n < cLine:=by show A.units + 1 + n < cLine; omega
   cases d with
   | lst xs =>
     rw [DS.dep] at hd
     (refine DX.x1_2 (Option.map_eq_some_iff.mp hd) ?_; rintro m hm rfl)
     have hx':=hx
     rw [Rep] at hx
     (refine DX.x2_4 hx ?_; try clear hx; rintro a vs rfl qa la ta)
     cases rx
     (refine DX.x1_3 (I.list (by rw [hK]; exact sub.seq qa)) ?_; rintro its r1 p1 _)
     cases e with
     | non => rw [Rep] at hy; subst hy; cases ry; exact .list_none p1.isList hu0
     | bl b => rw [Rep] at hy; subst hy; cases ry; exact .list_bool b p1.isList hu0
     | int i => rw [Rep] at hy; subst hy; obtain ⟨t,rfl⟩:=ry; exact .list_int i t p1.isList hu0
     | str i => rw [Rep] at hy; subst hy; obtain ⟨t,rfl⟩:=ry; exact .list_str i t p1.isList hu0
     | tup ys =>
       rw [Rep] at hy
       (refine DX.x2_4 hy ?_; try clear hy; rintro b ws rfl qb lb tb)
       cases ry
       (refine DX.x1_3 (I.tuple (by rw [hK]; exact sub.seqT qb)) ?_; rintro its2 r2 p2 _)
       exact .list_tuple p1.isList p2 hu0
     | lst ys =>
       have hy':=hy
       rw [Rep] at hy
       (refine DX.x2_4 hy ?_; try clear hy; rintro b ws rfl qb lb tb)
       cases ry
       (refine DX.x1_3 (I.list (by rw [hK]; exact sub.seq qb)) ?_; rintro its2 r2 p2 _)
       have l1:=ta.length.trans r1.length
       have l2:=tb.length.trans r2.length
       by_cases hab:a = b
       · subst hab
         have hdd:(DS.dep (.lst xs)).isSome = true:=by rw [DS.dep,hm]; rfl
         have hq:=Rep.inj I hK sub hdd he hx' hy'
         rw [← hq,DS.qm_ _ hdd]
         exact .same _
       · rw [DS.yar_]
         rw [DS.dep] at he
         by_cases hsz:its.toArray.size = its2.toArray.size
         · rw [← qy_ l1 l2 hsz]
           refine .of_refs hab (.lists p1.isList p2.isList hsz hu0 (uk_ ta tb r1 r2 fun i d e x y u v e1 e2 q1 q2 q3 q4 => ?_))
           (refine DX.x1_2 (vd_ hm e1) ?_; rintro k' z1 z2)
           obtain ⟨m2,hm2⟩:=Option.isSome_iff_exists.mp (show (DS.deps ys).isSome = true by simpa using he)
           (refine DX.x1_2 (vd_ hm2 e2) ?_; rintro k2 z3 _)
           exact ih d e k' z1 (by omega) (by rw [z3]; rfl) A.in1 x y u v hu1 q1 q2 q3 q4
         · rw [zz_ l1 l2 hsz]
           exact .of_refs hab (.lists_lengths p1.isList p2.isList (by simpa using hsz) hu0)
     | set _ => simp [DS.dep] at he
     | exc _ => simp [DS.dep] at he
   | tup xs =>
     rw [DS.dep] at hd
     (refine DX.x1_2 (Option.map_eq_some_iff.mp hd) ?_; rintro m hm rfl)
     have hx':=hx
     rw [Rep] at hx
     (refine DX.x2_4 hx ?_; try clear hx; rintro a vs rfl qa la ta)
     cases rx
     (refine DX.x1_3 (I.tuple (by rw [hK]; exact sub.seqT qa)) ?_; rintro its r1 p1 _)
     cases e with
     | non => rw [Rep] at hy; subst hy; cases ry; exact .tuple_none p1 hu0
     | bl b => rw [Rep] at hy; subst hy; cases ry; exact .tuple_bool b p1 hu0
     | int i => rw [Rep] at hy; subst hy; obtain ⟨t,rfl⟩:=ry; exact .tuple_int i t p1 hu0
     | str i => rw [Rep] at hy; subst hy; obtain ⟨t,rfl⟩:=ry; exact .tuple_str i t p1 hu0
     | lst ys =>
       rw [Rep] at hy
       (refine DX.x2_4 hy ?_; try clear hy; rintro b ws rfl qb lb tb)
       cases ry
       (refine DX.x1_3 (I.list (by rw [hK]; exact sub.seq qb)) ?_; rintro its2 r2 p2 _)
       exact .tuple_list p1 p2.isList hu0
     | tup ys =>
       have hy':=hy
       rw [Rep] at hy
       (refine DX.x2_4 hy ?_; try clear hy; rintro b ws rfl qb lb tb)
       cases ry
       (refine DX.x1_3 (I.tuple (by rw [hK]; exact sub.seqT qb)) ?_; rintro its2 r2 p2 _)
       have l1:=ta.length.trans r1.length
       have l2:=tb.length.trans r2.length
       by_cases hab:a = b
       · subst hab
         have hdd:(DS.dep (.tup xs)).isSome = true:=by rw [DS.dep,hm]; rfl
         have hq:=Rep.inj I hK sub hdd he hx' hy'
         rw [← hq,DS.qm_ _ hdd]
         exact .same _
       · rw [DS.xar_,← u7_ l1 l2]
         rw [DS.dep] at he
         refine .of_refs hab (.tuples p1 p2 hu0 (uk_ ta tb r1 r2 fun i d e x y u v e1 e2 q1 q2 q3 q4 => ?_))
         (refine DX.x1_2 (vd_ hm e1) ?_; rintro k' z1 z2)
         obtain ⟨m2,hm2⟩:=Option.isSome_iff_exists.mp (show (DS.deps ys).isSome = true by simpa using he)
         (refine DX.x1_2 (vd_ hm2 e2) ?_; rintro k2 z3 _)
         exact ih d e k' z1 (by omega) (by rw [z3]; rfl) A.in1 x y u v hu1 q1 q2 q3 q4
     | set _ => simp [DS.dep] at he
     | exc _ => simp [DS.dep] at he
   | set _ => simp [DS.dep] at hd
   | exc _ => simp [DS.dep] at hd
   | _ => simp [DS.dep] at hd; omega
theorem zh_ {d:D} (h:DS.eqOk d = true):∃ k,DS.dep d = some k ∧ k ≤ 20:=by
 unfold DS.eqOk at h
 split at h
 · rename_i n e; exact ⟨n,e,by simpa using h⟩
 · cases h
theorem ybe_ (I:Inv X pins σ H s) (hK:X.K = r.K) (sub:Same G H) {d e:D} {k:Nat} (hd:DS.dep d = some k) (hk:k ≤ 20) (he:(DS.dep e).isSome = true) {A:Around} {x y:V} {u v:Value} (hu:A.units + 64 < cLine) (hx:Rep r G d x) (hy:Rep r G e y) (rx:RelV x u) (ry:RelV y v):SeqAt.RcAt A s u v (DS.eqD d e):=by
 have hu0:A.units < cLine:=by omega
 have hu1:A.in1.units + 20 < cLine:=by show A.units + 1 + 20 < cLine; omega
 have lst0:∀ {xs:List D} {y:V} {v:Value},Rep r G (.lst xs) y→RelV y v→∃ a ja_,v = .ref a ∧ s.heap.IsList a ja_:=fun h q => by
   rw [Rep] at h
   (refine DX.x2_3 h ?_; try clear h; rintro a vs rfl qa _)
   cases q
   (refine DX.x1_3 (I.list (by rw [hK]; exact sub.seq qa)) ?_; rintro its _ p _)
   exact ⟨a,_,rfl,p.isList⟩
 have tup0:∀ {xs:List D} {y:V} {v:Value},Rep r G (.tup xs) y→RelV y v→∃ a ja_,v = .ref a ∧ s.heap.IsTuple a ja_:=fun h q => by
   rw [Rep] at h
   (refine DX.x2_3 h ?_; try clear h; rintro a vs rfl qa _)
   cases q
   (refine DX.x1_3 (I.tuple (by rw [hK]; exact sub.seqT qa)) ?_; rintro its _ p _)
   exact ⟨a,_,rfl,p⟩
 cases d with
 | non =>
   rw [Rep] at hx; subst hx; cases rx
   cases e with
   | non => rw [Rep] at hy; subst hy; cases ry; exact .none_none  
   | bl b' => rw [Rep] at hy; subst hy; cases ry; exact .none_bool  b'
   | int j => rw [Rep] at hy; subst hy; obtain ⟨t,rfl⟩:=ry; exact .none_int  j t
   | str j => rw [Rep] at hy; subst hy; obtain ⟨t,rfl⟩:=ry; exact .none_str  j t
   | lst _ => (refine DX.x2_2 (lst0 hy ry) ?_; rintro a its rfl h); exact .none_list  h hu0
   | tup _ => (refine DX.x2_2 (tup0 hy ry) ?_; rintro a its rfl h); exact .none_tuple  h hu0
   | set _ => simp [DS.dep] at he
   | exc _ => simp [DS.dep] at he
 | bl b =>
   rw [Rep] at hx; subst hx; cases rx
   cases e with
   | non => rw [Rep] at hy; subst hy; cases ry; exact .bool_none b 
   | bl b' => rw [Rep] at hy; subst hy; cases ry; exact .bool_bool b b'
   | int j => rw [Rep] at hy; subst hy; obtain ⟨t,rfl⟩:=ry; exact .bool_int b j t
   | str j => rw [Rep] at hy; subst hy; obtain ⟨t,rfl⟩:=ry; exact .bool_str b j t
   | lst _ => (refine DX.x2_2 (lst0 hy ry) ?_; rintro a its rfl h); exact .bool_list b h hu0
   | tup _ => (refine DX.x2_2 (tup0 hy ry) ?_; rintro a its rfl h); exact .bool_tuple b h hu0
   | set _ => simp [DS.dep] at he
   | exc _ => simp [DS.dep] at he
 | int i =>
   rw [Rep] at hx; subst hx; obtain ⟨t0,rfl⟩:=rx
   cases e with
   | non => rw [Rep] at hy; subst hy; cases ry; exact .int_none i t0 
   | bl b' => rw [Rep] at hy; subst hy; cases ry; exact .int_bool i t0 b'
   | int j => rw [Rep] at hy; subst hy; obtain ⟨t,rfl⟩:=ry; exact .int_int i t0 j t
   | str j => rw [Rep] at hy; subst hy; obtain ⟨t,rfl⟩:=ry; exact .int_str i t0 j t
   | lst _ => (refine DX.x2_2 (lst0 hy ry) ?_; rintro a its rfl h); exact .int_list i t0 h hu0
   | tup _ => (refine DX.x2_2 (tup0 hy ry) ?_; rintro a its rfl h); exact .int_tuple i t0 h hu0
   | set _ => simp [DS.dep] at he
   | exc _ => simp [DS.dep] at he
 | str i =>
   rw [Rep] at hx; subst hx; obtain ⟨t0,rfl⟩:=rx
   cases e with
   | non => rw [Rep] at hy; subst hy; cases ry; exact .str_none i t0 
   | bl b' => rw [Rep] at hy; subst hy; cases ry; exact .str_bool i t0 b'
   | int j => rw [Rep] at hy; subst hy; obtain ⟨t,rfl⟩:=ry; exact .str_int i t0 j t
   | str j => rw [Rep] at hy; subst hy; obtain ⟨t,rfl⟩:=ry; exact .str_str i t0 j t
   | lst _ => (refine DX.x2_2 (lst0 hy ry) ?_; rintro a its rfl h); exact .str_list i t0 h hu0
   | tup _ => (refine DX.x2_2 (tup0 hy ry) ?_; rintro a its rfl h); exact .str_tuple i t0 h hu0
   | set _ => simp [DS.dep] at he
   | exc _ => simp [DS.dep] at he
 | lst xs =>
   rw [DS.dep] at hd
   (refine DX.x1_2 (Option.map_eq_some_iff.mp hd) ?_; rintro m hm rfl)
   rw [Rep] at hx
   (refine DX.x2_4 hx ?_; try clear hx; rintro a vs rfl qa la ta)
   cases rx
   (refine DX.x1_3 (I.list (by rw [hK]; exact sub.seq qa)) ?_; rintro its r1 p1 _)
   cases e with
   | non => rw [Rep] at hy; subst hy; cases ry; exact .list_none  p1.isList hu0
   | bl b' => rw [Rep] at hy; subst hy; cases ry; exact .list_bool b' p1.isList hu0
   | int j => rw [Rep] at hy; subst hy; obtain ⟨t,rfl⟩:=ry; exact .list_int j t p1.isList hu0
   | str j => rw [Rep] at hy; subst hy; obtain ⟨t,rfl⟩:=ry; exact .list_str j t p1.isList hu0
   | tup ys => (refine DX.x2_2 (tup0 hy ry) ?_; rintro b its2 rfl h); exact .list_tuple p1.isList h hu0
   | lst ys =>
     rw [Rep] at hy
     (refine DX.x2_4 hy ?_; try clear hy; rintro b ws rfl qb lb tb)
     cases ry
     (refine DX.x1_3 (I.list (by rw [hK]; exact sub.seq qb)) ?_; rintro its2 r2 p2 _)
     have l1:=ta.length.trans r1.length
     have l2:=tb.length.trans r2.length
     rw [DS.dep] at he
     have ja_:=uk_ (A:=A.in1) ta tb r1 r2 fun i d e x y u v e1 e2 q1 q2 q3 q4 => by
       (refine DX.x1_2 (vd_ hm e1) ?_; rintro k' z1 z2)
       obtain ⟨m2,hm2⟩:=Option.isSome_iff_exists.mp (show (DS.deps ys).isSome = true by simpa using he)
       (refine DX.x1_2 (vd_ hm2 e2) ?_; rintro k2 z3 _)
       exact q2_ I hK sub 20 d e k' z1 (by omega) (by rw [z3]; rfl) A.in1 x y u v hu1 q1 q2 q3 q4
     rw [DS.yar_]
     by_cases hsz:its.toArray.size = its2.toArray.size
     · rw [← qy_ l1 l2 hsz]
       exact .lists p1.isList p2.isList hsz hu0 ja_
     · rw [zz_ l1 l2 hsz]
       exact .lists_lengths p1.isList p2.isList (by simpa using hsz) hu0
   | set _ => simp [DS.dep] at he
   | exc _ => simp [DS.dep] at he
 | tup xs =>
   rw [DS.dep] at hd
   (refine DX.x1_2 (Option.map_eq_some_iff.mp hd) ?_; rintro m hm rfl)
   rw [Rep] at hx
   (refine DX.x2_4 hx ?_; try clear hx; rintro a vs rfl qa la ta)
   cases rx
   (refine DX.x1_3 (I.tuple (by rw [hK]; exact sub.seqT qa)) ?_; rintro its r1 p1 _)
   cases e with
   | non => rw [Rep] at hy; subst hy; cases ry; exact .tuple_none  p1 hu0
   | bl b' => rw [Rep] at hy; subst hy; cases ry; exact .tuple_bool b' p1 hu0
   | int j => rw [Rep] at hy; subst hy; obtain ⟨t,rfl⟩:=ry; exact .tuple_int j t p1 hu0
   | str j => rw [Rep] at hy; subst hy; obtain ⟨t,rfl⟩:=ry; exact .tuple_str j t p1 hu0
   | lst ys => (refine DX.x2_2 (lst0 hy ry) ?_; rintro b its2 rfl h); exact .tuple_list p1 h hu0
   | tup ys =>
     rw [Rep] at hy
     (refine DX.x2_4 hy ?_; try clear hy; rintro b ws rfl qb lb tb)
     cases ry
     (refine DX.x1_3 (I.tuple (by rw [hK]; exact sub.seqT qb)) ?_; rintro its2 r2 p2 _)
     have l1:=ta.length.trans r1.length
     have l2:=tb.length.trans r2.length
     rw [DS.dep] at he
     have ja_:=uk_ (A:=A.in1) ta tb r1 r2 fun i d e x y u v e1 e2 q1 q2 q3 q4 => by
       (refine DX.x1_2 (vd_ hm e1) ?_; rintro k' z1 z2)
       obtain ⟨m2,hm2⟩:=Option.isSome_iff_exists.mp (show (DS.deps ys).isSome = true by simpa using he)
       (refine DX.x1_2 (vd_ hm2 e2) ?_; rintro k2 z3 _)
       exact q2_ I hK sub 20 d e k' z1 (by omega) (by rw [z3]; rfl) A.in1 x y u v hu1 q1 q2 q3 q4
     rw [DS.xar_]
     rw [← u7_ l1 l2]
     exact .tuples p1 p2 hu0 ja_
   | set _ => simp [DS.dep] at he
   | exc _ => simp [DS.dep] at he
 | set _ => simp [DS.dep] at hd
 | exc _ => simp [DS.dep] at hd
theorem xbe_ (I:Inv X pins σ H s) (hK:X.K = r.K) (sub:Same G H) {d e:D} {k:Nat} (hd:DS.dep d = some k) (hk:k ≤ 20) (he:(DS.dep e).isSome = true) {A:Around} {x y:V} {u v:Value} (hu:A.units + 64 < cLine) (hx:Rep r G d x) (hy:Rep r G e y) (rx:RelV x u) (ry:RelV y v):SeqAt.RcNeAt A s u v (!DS.eqD d e):=by
 have hu0:A.units < cLine:=by omega
 have hu1:A.in1.units + 20 < cLine:=by show A.units + 1 + 20 < cLine; omega
 have lst0:∀ {xs:List D} {y:V} {v:Value},Rep r G (.lst xs) y→RelV y v→∃ a ja_,v = .ref a ∧ s.heap.IsList a ja_:=fun h q => by
   rw [Rep] at h
   (refine DX.x2_3 h ?_; try clear h; rintro a vs rfl qa _)
   cases q
   (refine DX.x1_3 (I.list (by rw [hK]; exact sub.seq qa)) ?_; rintro its _ p _)
   exact ⟨a,_,rfl,p.isList⟩
 have tup0:∀ {xs:List D} {y:V} {v:Value},Rep r G (.tup xs) y→RelV y v→∃ a ja_,v = .ref a ∧ s.heap.IsTuple a ja_:=fun h q => by
   rw [Rep] at h
   (refine DX.x2_3 h ?_; try clear h; rintro a vs rfl qa _)
   cases q
   (refine DX.x1_3 (I.tuple (by rw [hK]; exact sub.seqT qa)) ?_; rintro its _ p _)
   exact ⟨a,_,rfl,p⟩
 cases d with
 | non =>
   rw [Rep] at hx; subst hx; cases rx
   cases e with
   | non => rw [Rep] at hy; subst hy; cases ry; exact .none_none  
   | bl b' => rw [Rep] at hy; subst hy; cases ry; exact .none_bool  b'
   | int j => rw [Rep] at hy; subst hy; obtain ⟨t,rfl⟩:=ry; exact .none_int  j t
   | str j => rw [Rep] at hy; subst hy; obtain ⟨t,rfl⟩:=ry; exact .none_str  j t
   | lst _ => (refine DX.x2_2 (lst0 hy ry) ?_; rintro a its rfl h); exact .none_list  h hu0
   | tup _ => (refine DX.x2_2 (tup0 hy ry) ?_; rintro a its rfl h); exact .none_tuple  h hu0
   | set _ => simp [DS.dep] at he
   | exc _ => simp [DS.dep] at he
 | bl b =>
   rw [Rep] at hx; subst hx; cases rx
   cases e with
   | non => rw [Rep] at hy; subst hy; cases ry; exact .bool_none b 
   | bl b' => rw [Rep] at hy; subst hy; cases ry; exact .bool_bool b b'
   | int j => rw [Rep] at hy; subst hy; obtain ⟨t,rfl⟩:=ry; exact .bool_int b j t
   | str j => rw [Rep] at hy; subst hy; obtain ⟨t,rfl⟩:=ry; exact .bool_str b j t
   | lst _ => (refine DX.x2_2 (lst0 hy ry) ?_; rintro a its rfl h); exact .bool_list b h hu0
   | tup _ => (refine DX.x2_2 (tup0 hy ry) ?_; rintro a its rfl h); exact .bool_tuple b h hu0
   | set _ => simp [DS.dep] at he
   | exc _ => simp [DS.dep] at he
 | int i =>
   rw [Rep] at hx; subst hx; obtain ⟨t0,rfl⟩:=rx
   cases e with
   | non => rw [Rep] at hy; subst hy; cases ry; exact .int_none i t0 
   | bl b' => rw [Rep] at hy; subst hy; cases ry; exact .int_bool i t0 b'
   | int j => rw [Rep] at hy; subst hy; obtain ⟨t,rfl⟩:=ry; exact .int_int i t0 j t
   | str j => rw [Rep] at hy; subst hy; obtain ⟨t,rfl⟩:=ry; exact .int_str i t0 j t
   | lst _ => (refine DX.x2_2 (lst0 hy ry) ?_; rintro a its rfl h); exact .int_list i t0 h hu0
   | tup _ => (refine DX.x2_2 (tup0 hy ry) ?_; rintro a its rfl h); exact .int_tuple i t0 h hu0
   | set _ => simp [DS.dep] at he
   | exc _ => simp [DS.dep] at he
 | str i =>
   rw [Rep] at hx; subst hx; obtain ⟨t0,rfl⟩:=rx
   cases e with
   | non => rw [Rep] at hy; subst hy; cases ry; exact .str_none i t0 
   | bl b' => rw [Rep] at hy; subst hy; cases ry; exact .str_bool i t0 b'
   | int j => rw [Rep] at hy; subst hy; obtain ⟨t,rfl⟩:=ry; exact .str_int i t0 j t
   | str j => rw [Rep] at hy; subst hy; obtain ⟨t,rfl⟩:=ry; exact .str_str i t0 j t
   | lst _ => (refine DX.x2_2 (lst0 hy ry) ?_; rintro a its rfl h); exact .str_list i t0 h hu0
   | tup _ => (refine DX.x2_2 (tup0 hy ry) ?_; rintro a its rfl h); exact .str_tuple i t0 h hu0
   | set _ => simp [DS.dep] at he
   | exc _ => simp [DS.dep] at he
 | lst xs =>
   rw [DS.dep] at hd
   (refine DX.x1_2 (Option.map_eq_some_iff.mp hd) ?_; rintro m hm rfl)
   rw [Rep] at hx
   (refine DX.x2_4 hx ?_; try clear hx; rintro a vs rfl qa la ta)
   cases rx
   (refine DX.x1_3 (I.list (by rw [hK]; exact sub.seq qa)) ?_; rintro its r1 p1 _)
   cases e with
   | non => rw [Rep] at hy; subst hy; cases ry; exact .list_none  p1.isList hu0
   | bl b' => rw [Rep] at hy; subst hy; cases ry; exact .list_bool b' p1.isList hu0
   | int j => rw [Rep] at hy; subst hy; obtain ⟨t,rfl⟩:=ry; exact .list_int j t p1.isList hu0
   | str j => rw [Rep] at hy; subst hy; obtain ⟨t,rfl⟩:=ry; exact .list_str j t p1.isList hu0
   | tup ys => (refine DX.x2_2 (tup0 hy ry) ?_; rintro b its2 rfl h); exact .list_tuple p1.isList h hu0
   | lst ys =>
     rw [Rep] at hy
     (refine DX.x2_4 hy ?_; try clear hy; rintro b ws rfl qb lb tb)
     cases ry
     (refine DX.x1_3 (I.list (by rw [hK]; exact sub.seq qb)) ?_; rintro its2 r2 p2 _)
     have l1:=ta.length.trans r1.length
     have l2:=tb.length.trans r2.length
     rw [DS.dep] at he
     have ja_:=uk_ (A:=A.in1) ta tb r1 r2 fun i d e x y u v e1 e2 q1 q2 q3 q4 => by
       (refine DX.x1_2 (vd_ hm e1) ?_; rintro k' z1 z2)
       obtain ⟨m2,hm2⟩:=Option.isSome_iff_exists.mp (show (DS.deps ys).isSome = true by simpa using he)
       (refine DX.x1_2 (vd_ hm2 e2) ?_; rintro k2 z3 _)
       exact q2_ I hK sub 20 d e k' z1 (by omega) (by rw [z3]; rfl) A.in1 x y u v hu1 q1 q2 q3 q4
     rw [DS.yar_]
     by_cases hsz:its.toArray.size = its2.toArray.size
     · rw [← qy_ l1 l2 hsz]
       exact .lists p1.isList p2.isList hsz hu0 ja_
     · rw [zz_ l1 l2 hsz]
       exact .lists_lengths p1.isList p2.isList (by simpa using hsz) hu0
   | set _ => simp [DS.dep] at he
   | exc _ => simp [DS.dep] at he
 | tup xs =>
   rw [DS.dep] at hd
   (refine DX.x1_2 (Option.map_eq_some_iff.mp hd) ?_; rintro m hm rfl)
   rw [Rep] at hx
   (refine DX.x2_4 hx ?_; try clear hx; rintro a vs rfl qa la ta)
   cases rx
   (refine DX.x1_3 (I.tuple (by rw [hK]; exact sub.seqT qa)) ?_; rintro its r1 p1 _)
   cases e with
   | non => rw [Rep] at hy; subst hy; cases ry; exact .tuple_none  p1 hu0
   | bl b' => rw [Rep] at hy; subst hy; cases ry; exact .tuple_bool b' p1 hu0
   | int j => rw [Rep] at hy; subst hy; obtain ⟨t,rfl⟩:=ry; exact .tuple_int j t p1 hu0
   | str j => rw [Rep] at hy; subst hy; obtain ⟨t,rfl⟩:=ry; exact .tuple_str j t p1 hu0
   | lst ys => (refine DX.x2_2 (lst0 hy ry) ?_; rintro b its2 rfl h); exact .tuple_list p1 h hu0
   | tup ys =>
     rw [Rep] at hy
     (refine DX.x2_4 hy ?_; try clear hy; rintro b ws rfl qb lb tb)
     cases ry
     (refine DX.x1_3 (I.tuple (by rw [hK]; exact sub.seqT qb)) ?_; rintro its2 r2 p2 _)
     have l1:=ta.length.trans r1.length
     have l2:=tb.length.trans r2.length
     rw [DS.dep] at he
     have ja_:=uk_ (A:=A.in1) ta tb r1 r2 fun i d e x y u v e1 e2 q1 q2 q3 q4 => by
       (refine DX.x1_2 (vd_ hm e1) ?_; rintro k' z1 z2)
       obtain ⟨m2,hm2⟩:=Option.isSome_iff_exists.mp (show (DS.deps ys).isSome = true by simpa using he)
       (refine DX.x1_2 (vd_ hm2 e2) ?_; rintro k2 z3 _)
       exact q2_ I hK sub 20 d e k' z1 (by omega) (by rw [z3]; rfl) A.in1 x y u v hu1 q1 q2 q3 q4
     rw [DS.xar_]
     rw [← u7_ l1 l2]
     exact .tuples p1 p2 hu0 ja_
   | set _ => simp [DS.dep] at he
   | exc _ => simp [DS.dep] at he
 | set _ => simp [DS.dep] at hd
 | exc _ => simp [DS.dep] at hd
theorem vo_ (hu:X.A.units + 64 < cLine) (hK:autoParam (X.K = r.K) au1._auto_1):OpR X (compareOp .Eq) (rD r DS.eqF):=by
 intro pins s σ H x y v u Q I rx ry ⟨G,dx,dy,d,sub,hx,hy,e,q⟩
 unfold DS.eqF at e
 split at e
 · rename_i hc
   cases e
   rw [Bool.and_eq_true] at hc
   (refine DX.x1_2 (zh_ hc.1) ?_; rintro k h1 h2)
   (refine DX.x1_2 (zh_ hc.2) ?_; rintro k' h3 _)
   exact ybe_ I hK sub h1 h2 (by rw [h3]; rfl) hu hx hy rx ry _ _ _ _ ⟨.bl _,H,I,rfl,q _ H G (Ext.refl sub) (by rw [Rep])⟩
 · cases e
theorem qt_ (hu:X.A.units + 64 < cLine) (hK:autoParam (X.K = r.K) au1._auto_1):OpR X (compareOp .NotEq) (rD r DS.neF):=by
 intro pins s σ H x y v u Q I rx ry ⟨G,dx,dy,d,sub,hx,hy,e,q⟩
 unfold DS.neF at e
 split at e
 · rename_i hc
   cases e
   rw [Bool.and_eq_true] at hc
   (refine DX.x1_2 (zh_ hc.1) ?_; rintro k h1 h2)
   (refine DX.x1_2 (zh_ hc.2) ?_; rintro k' h3 _)
   exact xbe_ I hK sub h1 h2 (by rw [h3]; rfl) hu hx hy rx ry _ _ _ _ ⟨.bl _,H,I,rfl,q _ H G (Ext.refl sub) (by rw [Rep])⟩
 · cases e
theorem xax_ (I:Inv X pins σ H s) (hK:X.K = r.K) (sub:Same G H) {dx:D} {x:V} {v:Value} (hx:Rep r G dx x) (rx:RelV x v) (hdx:DS.eqOk dx = true) {A:Around} (hu:A.units + 20 < cLine) :
   ∀ {ds:List D} {vs:List V} {its:List Value},Reps r G ds vs→Vals vs its→ds.all DS.eqOk = true→∃ e:Value→Bool,(∀ w ∈ its,SeqAt.EqAt A s w v (e w)) ∧ its.map e = ds.map fun y => DS.eqD y dx:=by
 intro ds
 have key:∀ (ds:List D) (vs:List V) (its:List Value),Reps r G ds vs→Vals vs its→ds.all DS.eqOk = true→∀ w ∈ its,∃ d ∈ ds,∃ z,Rep r G d z ∧ RelV z w:=by
   intro ds
   induction ds with
   | nil => intro vs its h q _ w hw; rw [h.nil_inv] at q; cases q; simp at hw
   | cons d ds ih =>
     intro vs its h q ha w hw
     (refine DX.x2_3 h.cons_inv ?_; rintro z t rfl q1 q2)
     cases q with
     | cons r1 r2 =>
       rcases List.mem_cons.mp hw with rfl | hw
       · exact ⟨d,by simp,z,q1,r1⟩
       · (refine DX.x1_2 (ih t _ q2 r2 (by rw [List.all_cons,Bool.and_eq_true] at ha; exact ha.2) w hw) ?_; rintro d' h1 h2)
         exact ⟨d',by simp [h1],h2⟩
 intro vs its td r1 ha
 classical
 let e:Value→Bool:=fun w => if h:∃ d:D,DS.eqOk d = true ∧ ∃ z,Rep r G d z ∧ RelV z w then DS.eqD h.choose dx else false
 have val:∀ w d z,DS.eqOk d = true→Rep r G d z→RelV z w→e w = DS.eqD d dx:=fun w d z hd hz hw => by
   have hex:∃ d:D,DS.eqOk d = true ∧ ∃ z,Rep r G d z ∧ RelV z w:=⟨d,hd,z,hz,hw⟩
   have:e w = DS.eqD hex.choose dx:=dif_pos hex
   rw [this]
   obtain ⟨h1,z',h2,h3⟩:=hex.choose_spec
   have:z' = z:=h3.inj hw
   subst this
   (refine DX.x1_2 (zh_ h1) ?_; rintro k1 a1 _)
   (refine DX.x1_2 (zh_ hd) ?_; rintro k2 a2 _)
   rw [Rep.inj I hK sub (by rw [a1]; rfl) (by rw [a2]; rfl) h2 hz]
 refine ⟨e,fun w hw => ?_,?_⟩
 · (refine DX.x1_2 (key ds vs its td r1 ha w hw) ?_; (rintro d h1 zz; refine DX.x1_2 zz ?_; try clear zz; rintro z h2 h3))
   have hd:=List.all_eq_true.mp ha d h1
   rw [val w d z hd h2 h3]
   (refine DX.x1_2 (zh_ hd) ?_; rintro k a1 a2)
   (refine DX.x1_2 (zh_ hdx) ?_; rintro k' a3 _)
   exact q2_ I hK sub 20 d dx k a1 a2 (by rw [a3]; rfl) A z x w v (by omega) h2 hx h3 rx
 · clear key
   induction ds generalizing vs its with
   | nil => rw [td.nil_inv] at r1; cases r1; rfl
   | cons d ds ih =>
     (refine DX.x2_3 td.cons_inv ?_; rintro z t rfl q1 q2)
     cases r1 with
     | cons r1 r2 =>
       rw [List.all_cons,Bool.and_eq_true] at ha
       rw [List.map_cons,List.map_cons,val _ d z ha.1 q1 r1,ih q2 r2 ha.2]
theorem q7_ {α:Type} (e:α→Bool) (l:List α) {ds:List D} {f:D→Bool} (h:l.map e = ds.map f):l.countP e = ds.countP f:=by
 rw [show l.countP e = (l.map e).countP id by rw [List.countP_map]; rfl,h,List.countP_map]; rfl
end
end L2
namespace HT
open PySem PyProof.Rows
section
variable {prog:Program} {w:World} {A:Around} {E:Value→Shared→Prop} {s:Shared}
theorem xm_ {t sl:Addr} {ja_:Array Value} {vl vu:Value} {lo hi:Option Int} {Q:Value→Shared→Prop} (ht:IsTup s.heap t ja_) (hs:s.heap.IsSliceOf sl vl vu .none) (pl:IsPart vl lo) (pu:IsPart vu hi)
   (hw:sIx ja_.size 0 lo = 0 ∧ sIx ja_.size ja_.size hi = ja_.size) (h:Q (.ref t) s):wpAny (model prog w) A (getItem (.ref t) (.ref sl)) Q E s:=by
 (refine DX.x1_3 (id hs) ?_; rintro os hos hcs hds)
 have hTs:s.TypeIs (.ref sl) "slice":=⟨os,hos,hcs⟩
 unfold getItem
 try with_reducible refine wpAny_holding ?_
 first | refine wpAny_bind (wpAny_pure ?_) | skip
 refine wpAny_bind (wpAny_sequenceKey ht.typeIs (by decide) ?_)
 refine wpAny_bind (wpAny_callSpecial?_slot (name:=Str.ofString "__getitem__") ht.typeIs PyProof.Rows.slot_tuple_getitem
   (wpAny_call_entry PyProof.Rows.slot_tuple_getitem ht.typeIs entry_tuple_getitem ?_ (args_tuple_getitem _ _)))
 show wpAny _ _ (Builtin.Tuple.tupleItemsOf (.ref t) >>= _) _ _ s
 refine wpAny_bind (tupleItemsOf_ ht ?_)
 refine wpAny_bind (wpAny_typeOf hTs ?_)
 rw [if_pos (by decide)]
 refine wpAny_bind (wj_ hs pl pu ?_)
 have hyes:(((sIx ja_.size 0 lo:Nat):Int) == 0 && (1:Int) == 1 && (sIx ja_.size ja_.size hi - sIx ja_.size 0 lo) == ja_.size) = true:=by
   rw [hw.1,hw.2]
   simp
 show wpAny _ _ (if (((sIx ja_.size 0 lo:Nat):Int) == 0 && (1:Int) == 1 && (sIx ja_.size ja_.size hi - sIx ja_.size 0 lo) == ja_.size) = true then _ else _) _ _ s
 rw [if_pos hyes]
 refine wpAny_bind (m:=Builtin.Tuple.tupleIsExact _) (wpAny_bind (wpAny_typeOf ht.typeIs (wpAny_pure ?_)))
 rw [if_pos (by decide)]
 first
   | exact wpAny_bind (wpAny_rule (wpAny_pure ⟨_,rfl,wpAny_pure h⟩))
   | exact wpAny_bind (wpAny_rule (wpAny_bind (wpAny_pure (wpAny_pure ⟨_,rfl,wpAny_pure h⟩))))
   | exact wpAny_bind (wpAny_rule (wpAny_bind (wpAny_pure (wpAny_pure ⟨_,rfl,h⟩))))
theorem wae_ (n:Nat):Builtin.Slice.sliceAdjust none none (-1) (n:Int) = ((n:Int) - 1,-1):=by
 unfold Builtin.Slice.sliceAdjust
 simp
theorem jae_ (n:Nat):Builtin.Slice.slicePlaces ((n:Int) - 1) (-1) (-1) = n:=by
 unfold Builtin.Slice.slicePlaces
 simp
 try omega
theorem jq_ {sl:Addr} {t:Tok} {n:Nat} {Q:Int × Int × Nat→Shared→Prop} (hs:s.heap.IsSliceOf sl .none .none (.int (-1) t)) (h:Q ((n:Int) - 1,-1,n) s):wpAny (model prog w) A (Builtin.Slice.sliceApplied (.ref sl) (pure (n:Int))) Q E s:=by
 (refine DX.x1_3 (id hs) ?_; rintro os hos hcs hds)
 unfold Builtin.Slice.sliceApplied Builtin.Slice.sliceFields
 refine wpAny_bind (wpAny_bind (wpAny_field hos hds (x:=.none) rfl (wpAny_bind (wpAny_field hos hds (x:=.none) rfl (wpAny_bind (wpAny_field hos hds (x:=.int (-1) t) rfl (wpAny_pure ?_)))))))
 refine wpAny_bind (slicePart_int ?_)
 show wpAny _ _ (if ((-1:Int) == 0) = true then _ else _) _ _ s
 rw [if_neg (by decide)]
 refine wpAny_bind (slicePart_none (wpAny_bind (slicePart_none (wpAny_bind (wpAny_pure ?_)))))
 show wpAny _ _ (match Builtin.Slice.sliceAdjust none none (-1) (n:Int) with | (lo,hi) => pure (lo,(-1:Int),Builtin.Slice.slicePlaces lo hi (-1))) _ _ s
 rw [wae_]
 show wpAny _ _ (pure ((n:Int) - 1,(-1:Int),Builtin.Slice.slicePlaces ((n:Int) - 1) (-1) (-1))) _ _ s
 rw [jae_]
 exact wpAny_pure h
theorem uar_ (xs:Array Value):((List.range xs.size).filterMap fun (m:Nat) => xs[((xs.size:Int) - 1 + (m:Int) * -1).toNat]?).toArray = xs.toList.reverse.toArray:=by
 congr 1
 have e:∀ m ∈ List.range xs.size,xs[((xs.size:Int) - 1 + (m:Int) * -1).toNat]? = (xs.toList.reverse)[m]?:=fun m hm => by
   rw [List.mem_range] at hm
   rw [List.getElem?_reverse (by simpa using hm)]
   have:((xs.size:Int) - 1 + (m:Int) * -1).toNat = xs.size - 1 - m:=by omega
   rw [this,Array.length_toList,Array.getElem?_toList]
 have fc:∀ (l:List Nat) (f g:Nat→Option Value),(∀ m ∈ l,f m = g m)→l.filterMap f = l.filterMap g:=by
   intro l f g h
   induction l with
   | nil => rfl
   | cons a l ih => rw [List.filterMap_cons,List.filterMap_cons,h a (by simp),ih fun m hm => h m (by simp [hm])]
 rw [fc _ _ _ e]
 have key:∀ l:List Value,(List.range l.length).filterMap (fun m => l[m]?) = l:=by
   intro l
   induction l with
   | nil => rfl
   | cons x l ih =>
     rw [List.length_cons,List.range_succ_eq_map,List.filterMap_cons]
     simp only [List.getElem?_cons_zero,List.filterMap_map]
     congr 1
 have:=key xs.toList.reverse
 rw [List.length_reverse,Array.length_toList] at this
 exact this
theorem uo_ {t sl:Addr} {ja_:Array Value} {k:Tok} {Q:Value→Shared→Prop} (ht:IsTup s.heap t ja_) (hs:s.heap.IsSliceOf sl .none .none (.int (-1) k))
   (h:Q (.ref s.heap.objs.size) { s with heap:=s.heap.push { cls:=.type "tuple",data:=.seq ja_.toList.reverse.toArray } }) (hsz:ja_.size ≤ sizeLine):wpAny (model prog w) A (getItem (.ref t) (.ref sl)) Q E s:=by
 have htake:sizeOk (.seq ja_.toList.reverse.toArray):=by
   show ja_.toList.reverse.toArray.size ≤ sizeLine
   rw [List.size_toArray,List.length_reverse,Array.length_toList]
   exact hsz
 (refine DX.x1_3 (id hs) ?_; rintro os hos hcs hds)
 have hTs:s.TypeIs (.ref sl) "slice":=⟨os,hos,hcs⟩
 unfold getItem
 try with_reducible refine wpAny_holding ?_
 first | refine wpAny_bind (wpAny_pure ?_) | skip
 refine wpAny_bind (wpAny_sequenceKey ht.typeIs (by decide) ?_)
 refine wpAny_bind (wpAny_callSpecial?_slot (name:=Str.ofString "__getitem__") ht.typeIs PyProof.Rows.slot_tuple_getitem
   (wpAny_call_entry PyProof.Rows.slot_tuple_getitem ht.typeIs entry_tuple_getitem ?_ (args_tuple_getitem _ _)))
 show wpAny _ _ (Builtin.Tuple.tupleItemsOf (.ref t) >>= _) _ _ s
 refine wpAny_bind (tupleItemsOf_ ht ?_)
 refine wpAny_bind (wpAny_typeOf hTs ?_)
 rw [if_pos (by decide)]
 refine wpAny_bind (jq_ hs ?_)
 have hno:¬ (((ja_.size:Int) - 1 == 0 && (-1:Int) == 1 && ja_.size == ja_.size) = true):=by simp
 show wpAny _ _ (if ((ja_.size:Int) - 1 == 0 && (-1:Int) == 1 && ja_.size == ja_.size) = true then _ else _) _ _ s
 rw [if_neg hno,uar_]
 first
   | exact wpAny_bind (m:=Builtin.Tuple.tupleExact _) (wpAny_newObj_type (wpAny_pure ⟨_,rfl,wpAny_pure h⟩) htake)
   | exact wpAny_bind (m:=Builtin.Tuple.tupleExact _) (wpAny_newObj_type (wpAny_bind (wpAny_pure (wpAny_pure ⟨_,rfl,wpAny_pure h⟩))) htake)
   | exact wpAny_bind (wpAny_bind (m:=Builtin.Tuple.tupleExact _) (wpAny_newObj_type (wpAny_pure (wpAny_pure ⟨_,rfl,wpAny_pure h⟩)) htake))
   | exact wpAny_bind (wpAny_bind (m:=Builtin.Tuple.tupleExact _) (wpAny_newObj_type (wpAny_pure ⟨_,rfl,wpAny_pure h⟩) htake))
end
end HT
namespace L2
open PySem PySem.Spec PyProof.Rows
open DS (D Sl Rho R M FS O Tg)
section
variable {X:Cx} {r:Rc}
theorem ka4_:SlR X (fun x lo hi H Q => ∃ a xs,x = .ref a ∧ SqT X.K H a xs ∧ (HT.sIx xs.length 0 lo = 0 ∧ HT.sIx xs.length xs.length hi = xs.length) ∧ Q (.ref a) H):=by
 intro pins s σ H x v vl vu lo hi sl Q I rx hs pl pu h
 (refine DX.x2_4 h ?_; try clear h; rintro a xs rfl hx hw q)
 cases rx
 (refine DX.x1_3 (I.tuple hx) ?_; rintro its r ht hz)
 have hlen:its.toArray.size = xs.length:=by rw [List.size_toArray]; exact r.length.symm
 exact ⟨"tuple",_,PyProof.Rows.slot_tuple_getitem.lookup,ht.typeIs,HT.xm_ ht hs pl pu (by rw [hlen]; exact hw) ⟨.ref a,H,I,rfl,q⟩⟩
theorem uak_ (hK:autoParam (X.K = r.K) au1._auto_1):SlR X (rDS r DS.slD):=by
 intro pins s σ H x v vl vu lo hi sl Q I rx hs pl pu ⟨G,dx,d,sub,hx,e,q⟩
 unfold DS.slD at e
 cases dx with
 | lst xs =>
   cases e
   rw [Rep] at hx
   (refine DX.x2_4 hx ?_; try clear hx; rintro a vs rfl qa la ta)
   refine wa0_ pins s σ H _ v vl vu lo hi sl Q I rx hs pl pu ⟨a,vs,rfl,by rw [hK]; exact sub.seq qa,fun p hp => ?_⟩
   have ex:=Ext.lay (o:=.lst (cutV vs lo hi)) sub hp
   refine q _ _ _ ex ?_
   rw [Rep]
   exact ⟨p,_,rfl,SqL.of yb_,Nat.le_trans (wi_ vs lo hi) la,(ta.cut lo hi).mono ex.view⟩
 | tup xs =>
   cases e
   have hx':=hx
   rw [Rep] at hx
   (refine DX.x2_4 hx ?_; try clear hx; rintro a vs rfl qa la ta)
   by_cases hw:HT.sIx vs.length 0 lo = 0 ∧ HT.sIx vs.length vs.length hi = vs.length
   · refine ka4_ pins s σ H _ v vl vu lo hi sl Q I rx hs pl pu ⟨a,vs,rfl,by rw [hK]; exact sub.seqT qa,hw,q _ H G (Ext.refl sub) ?_⟩
     have ec:cutV vs lo hi = vs:=by unfold cutV; rw [hw.1,hw.2]; simp
     have:=ta.cut lo hi
     rw [ec] at this
     rw [Rep]
     exact ⟨a,vs,rfl,qa,la,this⟩
   · refine zba_ pins s σ H _ v vl vu lo hi sl Q I rx hs pl pu ⟨a,vs,rfl,by rw [hK]; exact sub.seqT qa,hw,fun p hp => ?_⟩
     have ex:=Ext.lay (o:=.tup (cutV vs lo hi)) sub hp
     refine q _ _ _ ex ?_
     rw [Rep]
     exact ⟨p,_,rfl,SqT.of yb_,Nat.le_trans (wi_ vs lo hi) la,(ta.cut lo hi).mono ex.view⟩
 | _ => cases e
theorem ybm_ {c:Db} {Ex:St→XK} {a:Expr} {fa:M D} {p2 p3 p4 pos:Pos} {j} (ha:PE X a (tE c Ex fa)) (hK:autoParam (X.K = c.r.K) au1._auto_1) :
   PE X (.Subscript a (.Slice none none (some (.UnaryOp .USub (.Constant (.int 1) j p3) p4)) p2) pos) (tE c Ex (DS.op1 DS.revD fa)):=by
 intro pins s σ H Q I h
 refine Subscript_ (thn (ha pins s σ H _ I (qaj_ h)) fun v s1 ⟨x,H1,I1,r1,q1⟩ => ?_)
 (refine DX.x3_4 q1 ?_; try clear q1; rintro G dx d sub hx e q)
 refine wpAny_Slice ?_
 rw [evalPart_none]
 refine wpAny_pure (wpAny_pure ?_)
 show wpAny _ _ (eval (.UnaryOp .USub (.Constant (.int 1) j p3) p4) X.env) _ _ s1
 refine thn (ua8_ (X:=X) uav_ xav_ pins s1 σ H1 (fun z H2 => z = .int (-1) ∧ H2 = H1) I1 ⟨1,rfl,rfl,rfl⟩) fun vk s2 ⟨z,H2,I2,r2,e1,e2⟩ => ?_
 subst e1
 subst e2
 obtain ⟨t,rfl⟩:=r2
 cases dx with
 | lst xs =>
   delta DS.revD at e; dsimp only at e
   cases e
   rw [Rep] at hx
   (refine DX.x2_4 hx ?_; try clear hx; rintro a' vs rfl qa la ta)
   cases r1
   have I4:Inv X pins σ H2 { s2 with heap:=s2.heap.push { cls:=.type "slice",data:=.fields #[.none,.none,.int (-1) t] } }:=I2.kept (t':=s2.toks) fun b ob q => Heap.get?_push_of_some _ q
   (refine DX.x1_3 (I4.list (xs:=vs) (by rw [hK]; exact sub.seq qa)) ?_; rintro its r3 p1 hz)
   have hlen:=r3.length
   refine tail_any (ops:=[.ref a',.ref s2.heap.objs.size]) p1.isList.typeIs slot_list_getitem.lookup ?_ (by with_unfolding_all rfl)
   refine wpAny_getItem_list_slice p1.isList (Heap.IsSliceOf.new ..) .none .none (.int _ _) (by simp) ?_ (by rw [List.size_toArray] <;> omega)
   rw [PySem.W.krv_pick]
   refine ⟨.ref _,_,I4.laid (t':=s2.toks) (o:=.lst vs.reverse) (fun b ob q => Heap.get?_push_of_some _ q) (Nat.le_refl _) ⟨by rw [List.length_reverse]; exact la,its.reverse,0,r3.reverse,?_⟩,rfl,?_⟩
   · have:its.toArray.toList.reverse = its.reverse:=by simp
     rw [this]
     exact Heap.get?_push_size _ rfl
   · have hp:=I4.hok.fresh (Nat.le_refl _)
     have ex:=Ext.lay (o:=.lst vs.reverse) sub hp
     refine q _ _ _ ex ?_
     rw [Rep]
     exact ⟨_,_,rfl,SqL.of yb_,by rw [List.length_reverse]; exact la,ta.reverse.mono ex.view⟩
 | tup xs =>
   delta DS.revD at e; dsimp only at e
   cases e
   rw [Rep] at hx
   (refine DX.x2_4 hx ?_; try clear hx; rintro a' vs rfl qa la ta)
   cases r1
   have I4:Inv X pins σ H2 { s2 with heap:=s2.heap.push { cls:=.type "slice",data:=.fields #[.none,.none,.int (-1) t] } }:=I2.kept (t':=s2.toks) fun b ob q => Heap.get?_push_of_some _ q
   (refine DX.x1_3 (I4.tuple (xs:=vs) (by rw [hK]; exact sub.seqT qa)) ?_; rintro its r3 p1 hz)
   have hlen:=r3.length
   refine tail_any (ops:=[.ref a',.ref s2.heap.objs.size]) p1.typeIs PyProof.Rows.slot_tuple_getitem.lookup ?_ (by with_unfolding_all rfl)
   refine HT.uo_ p1 (Heap.IsSliceOf.new ..) ?_ (by rw [List.size_toArray]; omega)
   refine ⟨.ref _,_,I4.laid (t':=s2.toks) (o:=.tup vs.reverse) (fun b ob q => Heap.get?_push_of_some _ q) (Nat.le_refl _) ⟨by rw [List.length_reverse]; exact la,its.reverse,r3.reverse,?_⟩,rfl,?_⟩
   · have:its.toArray.toList.reverse = its.reverse:=by simp
     rw [this]
     exact IsTup.new _ _
   · have hp:=I4.hok.fresh (Nat.le_refl _)
     have ex:=Ext.lay (o:=.tup vs.reverse) sub hp
     refine q _ _ _ ex ?_
     rw [Rep]
     exact ⟨_,_,rfl,SqT.of yb_,by rw [List.length_reverse]; exact la,ta.reverse.mono ex.view⟩
 | _ => cases e
end
end L2
namespace SetPure
open PySem PySem.Spec
section
variable {prog:Program} {w:World} {A:Around} {E:Value→Shared→Prop} {s:Shared}
end
end SetPure
namespace L2
open PySem PySem.Spec PyProof.Rows
open DS (D Sl Rho R M FS O Tg)
section
variable {X:Cx} {r:Rc}
end
end L2
namespace L2
open PySem PySem.Spec PyProof.Rows
open DS (D Sl Rho R M FS O Tg)
section
variable {X:Cx} {r:Rc} {c:Db} {Ex:St→XK} {a b:Expr} {pos apos:Pos} {fa fb:M D}
noncomputable def rM (r:Rc) (g:D→D→Option D):V→List V→Hp→VK→Prop:=fun x xs H Q => ∃ y,xs = [y] ∧ rD r g x y H Q
theorem qak_ {g:D→D→Option D} {σ:St} {H:Hp} {Q:VK} {K:PySem.W.Frag} (hK:K = c.r.K) (h:tE c Ex (DS.opL g fa fb) σ H Q):tBM K "list" (rM c.r g) (tE c Ex fa) (zah_ (tE c Ex fb) tNil) σ H Q:=by
 (refine DX.x7_3 h ?_; try clear h; rintro ρ G hs ts us ρ' x s e hf)
 refine xb_ s e hf fun ρ1 dx v H1 G1 e1 s1 r1 => ?_
 unfold DS.bnd at e1
 cases dx with
 | lst xs =>
   have e2:DS.bnd fb (fun y => DS.lft (g (.lst xs) y)) ρ1 = some (ρ',x):=e1
   have r1':=r1
   rw [Rep] at r1'
   (refine DX.x2_4 r1' ?_; try clear r1'; rintro a vs rfl qa la ta)
   refine ⟨.inl ⟨rfl,vs,by rw [hK]; exact s1.sub.seq qa⟩,?_⟩
   refine xb_ (s1.push r1) e2 hf.push fun ρ2 y u H2 G2 e2 s2 r2 => ?_
   (refine DX.x1_3 (ub_ e2) ?_; rintro d e3 rfl rfl)
   obtain ⟨r1',s2'⟩:=s2.pop1
   exact ⟨u,rfl,G2,_,y,d,s2'.sub,r1',r2,e3,fun v' H' G' ex rp => hf v' H' G' (s2'.grow ex) rp⟩
 | _ => cases e1
theorem wbe_ (hu:X.A.units + 64 < cLine) (hK:autoParam (X.K = r.K) au1._auto_1):MtR X "list.count" (rM r DS.cntD):=by
 intro pins s σ H x xs v us Q I rx rs ⟨y,exs,G,dx,dy,d,sub,hx,hy,e,q⟩
 subst exs
 (refine DX.x1_2 (yq_ rs) ?_; rintro u rfl ry)
 unfold DS.cntD at e
 cases dx with
 | lst ys =>
   dsimp only at e
   split at e
   · rename_i hc
     cases e
     rw [Bool.and_eq_true] at hc
     rw [Rep] at hx
     (refine DX.x2_4 hx ?_; try clear hx; rintro a vs rfl qa la ta)
     cases rx
     (refine DX.x1_3 (I.list (xs:=vs) (by rw [hK]; exact sub.seq qa)) ?_; rintro its r1 p1 _)
     (refine DX.x1_2 (xax_ (A:=X.A.in1) I hK sub hy ry hc.1 (by show X.A.units + 1 + 20 < cLine; omega) ta r1 hc.2) ?_; rintro f h1 h2)
     (refine DX.x1_3 p1.isList ?_; rintro ⟨cls,dd,data,sl⟩ ho hcl ⟨n,hd⟩)
     simp only at hcl hd
     subst hcl hd
     refine call_meets F.slot_list_count ⟨_,ho,rfl⟩ F.entry_list_count (F.args_list_count_2 _ _) (SeqAt.list_countAt a its.toArray n dd sl u f) ⟨ho,fun w hw => h1 w (by simpa using hw),?_⟩
     refine ⟨.int _,H,I.tok _,⟨_,rfl⟩,q _ H G (Ext.refl sub) ?_⟩
     rw [Rep,show its.toArray.toList.countP f = its.countP f by simp,q7_ f its h2]
   · cases e
 | _ => cases e
theorem jbe_ (hu:X.A.units + 64 < cLine) (ha:PE X a (tE c Ex fa)) (hb:PE X b (tE c Ex fb)) (hK:autoParam (X.K = c.r.K) au1._auto_1)
   (hbase:autoParam (attributeBase a "count" X.env (eval a X.env) = eval a X.env) au1._auto_1)
   (hfew:((backTo pos (starEach [b] X.env)).all (fun x => !x.1) && (backToKw pos (keywordEach [] X.env)).all (fun x => x.1.isSome)
     && decide ([b].length + ([]:List Keyword).length + (if ([]:List Keyword).isEmpty then 0 else 1) < 30)) = true:=by rfl)
   (hline:autoParam ((apos.endLine == pos.line) = true) au1._auto_1) (hs:autoParam (starEach [b] X.env = (false,eval b X.env) :: starEach [] X.env) au1._auto_1) (hplain:autoParam ((backTo pos (starEach [] X.env)).any (·.1) = false) au1._auto_1) :
   PE X (.Call (.Attribute a "count" apos) [b] [] pos) (tE c Ex (DS.opL DS.cntD fa fb)) :=
 (kah_ PySem.F.plainAttrs_list PySem.F.slot_list_count PySem.F.type_list_count (wbe_ hu hK) ha (vj_ hb xr_ hs) hbase hfew hline hs hplain).imp fun _ _ _ h => qak_ hK h
theorem kp_ {α:Type} (e:α→Bool):∀ (l:List α) {ds:List D} {f:D→Bool},l.map e = ds.map f→l.findIdx e = ds.findIdx f
 | [],[],_,_ => rfl
 | [],_ :: _,_,h => by simp at h
 | _ :: _,[],_,h => by simp at h
 | x :: l,d :: ds,f,h => by
   simp only [List.map_cons,List.cons.injEq] at h
   rw [List.findIdx_cons,List.findIdx_cons,h.1,kp_ e l h.2]
theorem kbe_ (hu:X.A.units + 64 < cLine) (hK:autoParam (X.K = r.K) au1._auto_1):MtR X "list.index" (rM r DS.idxD):=by
 intro pins s σ H x xs v us Q I rx rs ⟨y,exs,G,dx,dy,d,sub,hx,hy,e,q⟩
 subst exs
 (refine DX.x1_2 (yq_ rs) ?_; rintro u rfl ry)
 unfold DS.idxD at e
 cases dx with
 | lst ys =>
   dsimp only at e
   split at e
   · rename_i hc
     split at e
     · rename_i hlt
       cases e
       rw [Bool.and_eq_true] at hc
       rw [Rep] at hx
       (refine DX.x2_4 hx ?_; try clear hx; rintro a vs rfl qa la ta)
       cases rx
       (refine DX.x1_3 (I.list (xs:=vs) (by rw [hK]; exact sub.seq qa)) ?_; rintro its r1 p1 _)
       (refine DX.x1_2 (xax_ (A:=X.A.in1) I hK sub hy ry hc.1 (by show X.A.units + 1 + 20 < cLine; omega) ta r1 hc.2) ?_; rintro f h1 h2)
       have l1:=ta.length.trans r1.length
       have ef:=kp_ f its h2
       have hlt':its.findIdx f < its.length:=by rw [ef]; omega
       (refine DX.x1_3 p1.isList ?_; rintro ⟨cls,dd,data,sl⟩ ho hcl ⟨n,hd⟩)
       simp only at hcl hd
       subst hcl hd
       have hz:vs.length ≤ 16777216:=by rw [sizeLine_eq] at la; exact la
       have l2:=r1.length
       refine call_meets F.slot_list_index ⟨_,ho,rfl⟩ F.entry_list_index (F.args_list_index_2 _ _) (SeqAt.list_indexAt a its.toArray n dd sl u f (its.findIdx f) (by simpa using hlt') (by omega) ?_ ?_) ⟨ho,fun w hw => h1 w (by simpa using hw),?_⟩
       · have:=List.findIdx_getElem (w:=hlt')
         simpa using this
       · intro m hm hlt2
         have:=List.not_of_lt_findIdx hlt2
         simpa using this
       · refine ⟨.int _,H,I.tok _,⟨_,rfl⟩,q _ H G (Ext.refl sub) ?_⟩
         rw [Rep,ef]
     · cases e
   · cases e
 | _ => cases e
theorem vbe_ (hu:X.A.units + 64 < cLine) (ha:PE X a (tE c Ex fa)) (hb:PE X b (tE c Ex fb)) (hK:autoParam (X.K = c.r.K) au1._auto_1)
   (hbase:autoParam (attributeBase a "index" X.env (eval a X.env) = eval a X.env) au1._auto_1)
   (hfew:((backTo pos (starEach [b] X.env)).all (fun x => !x.1) && (backToKw pos (keywordEach [] X.env)).all (fun x => x.1.isSome)
     && decide ([b].length + ([]:List Keyword).length + (if ([]:List Keyword).isEmpty then 0 else 1) < 30)) = true:=by rfl)
   (hline:autoParam ((apos.endLine == pos.line) = true) au1._auto_1) (hs:autoParam (starEach [b] X.env = (false,eval b X.env) :: starEach [] X.env) au1._auto_1) (hplain:autoParam ((backTo pos (starEach [] X.env)).any (·.1) = false) au1._auto_1) :
   PE X (.Call (.Attribute a "index" apos) [b] [] pos) (tE c Ex (DS.opL DS.idxD fa fb)) :=
 (kah_ PySem.F.plainAttrs_list PySem.F.slot_list_index PySem.F.type_list_index (kbe_ hu hK) ha (vj_ hb xr_ hs) hbase hfew hline hs hplain).imp fun _ _ _ h => qak_ hK h
structure ErrCls (K:PySem.W.Frag) (ad:String→Addr) (cls:List String):Prop where
 isi:∀ n,cls.contains n = true→PySem.W.ExcIsi K (ad n) ∧ (PySem.W.clsIn K (ad n)).isSome = true
theorem ube_ {p q:Pos} {y:Str} {cls:List String} {sup:String→String→Bool} {m:String} {vc:V} {cv:Value} (E:ErrCls X.K c.r.ad cls) (hk:∀ n,cls.contains n = true→PySem.W.kitOne X.K (.ref (c.r.ad n)) cv = some (sup n m))
   (hm:X.mg "isinstance" = none) (hv:bootBuiltins "isinstance" = some (.builtin "isinstance")) (hcl:PE X (.Name y q) (tC vc)) (hvc:RelV vc cv) (hvv:∀ u,RelV vc u→u = cv) (ha:PE X a (tE c Ex fa)) (hK:autoParam (X.K = c.r.K) au1._auto_1) (hg:autoParam (Gl X "isinstance") au1._auto_1)
   (he:autoParam (starEach [a,.Name y q] X.env = (false,eval a X.env) :: starEach [.Name y q] X.env) au1._auto_1) (he2:autoParam (starEach [.Name y q] X.env = (false,eval (.Name y q) X.env) :: starEach [] X.env) au1._auto_1) (hpl:autoParam ((backTo pos (starEach [.Name y q] X.env)).any (·.1) = false) au1._auto_1) :
   PE X (.Call (.Name "isinstance" p) [a,.Name y q] [] pos) (tE c Ex (DS.op1 (DS.isiE cls sup m) fa)):=by
 have hc:wo_ X (.builtin "isinstance") (fun xs H Q => ∃ x,xs = [x,vc] ∧ rD1 c.r (DS.isiE cls sup m) x H Q):=by
   intro pins s σ H xs us Q I rs ⟨x,exs,G,dx,d,sub,hx,e,q⟩
   subst exs
   (refine DX.x2_3 (vbi_ rs) ?_; rintro u v rfl rx ry)
   have:=hvv v ry
   subst this
   cases dx with
   | exc n =>
     delta DS.isiE at e; dsimp only at e
     split at e
     · rename_i hn
       cases e
       rw [Rep] at hx
       (refine DX.x1_2 hx ?_; try clear hx; rintro a' rfl qa)
       cases rx
       obtain ⟨h1,h2⟩:=E.isi n hn
       have ob:∃ o vs,s.heap.get? a' = some o ∧ o.cls = .ref (c.r.ad n) ∧ o.data = .fields vs:=(I.hok a' _ (sub _ _ qa)).1
       exact PySem.W.kia_one (PySem.W.kitx_exc h1 h2) I.kIn ob (hk n hn) (fun z => nomatch z) fun tk => ⟨.bl _,H,I.tok tk,rfl,q _ H G (Ext.refl sub) (by rw [Rep])⟩
     · cases e
   | _ => cases e
 refine (w9_ hc hg hm hv (vj_ ha (vj_ hcl xr_ he2) he) (by decide) (by decide) he hpl).imp fun σ H Q h => ?_
 exact imp_args h
where
 imp_args {g:D→Option D} {σ:St} {H:Hp} {Q:VK} {vc:V} (h:tE c Ex (DS.op1 g fa) σ H Q):tCB (fun xs H Q => ∃ x,xs = [x,vc] ∧ rD1 c.r g x H Q) (zah_ (tE c Ex fa) (zah_ (tC vc) tNil)) σ H Q:=by
   (refine DX.x7_3 h ?_; try clear h; rintro ρ G hs ts us ρ' x s e hf)
   refine xb_ s e hf fun ρ1 dx v H1 G1 e1 s1 r1 => ?_
   (refine DX.x1_3 (ub_ e1) ?_; rintro d e3 rfl rfl)
   exact ⟨v,rfl,G1,dx,d,s1.sub,r1,e3,fun v' H' G' ex rp => hf v' H' G' (s1.grow ex) rp⟩
theorem z3_ {p q:Pos} {y:Str} {C:Addr} {cls:List String} {sup:String→String→Bool} {m:String} (E:ErrCls X.K c.r.ad cls) (hk:∀ n,cls.contains n = true→PySem.W.kitOne X.K (.ref (c.r.ad n)) (.ref C) = some (sup n m))
   (hm:X.mg "isinstance" = none) (hv:bootBuiltins "isinstance" = some (.builtin "isinstance")) (hy:X.mg y = some (.ref C)) (ha:PE X a (tE c Ex fa)) (hgy:autoParam (Gl X y) au1._auto_1) (hdb:autoParam ((y == ("__debug__":Str)) = false) au2._auto_1) (hK:autoParam (X.K = c.r.K) au1._auto_1) (hg:autoParam (Gl X "isinstance") au1._auto_1)
   (he:autoParam (starEach [a,.Name y q] X.env = (false,eval a X.env) :: starEach [.Name y q] X.env) au1._auto_1) (he2:autoParam (starEach [.Name y q] X.env = (false,eval (.Name y q) X.env) :: starEach [] X.env) au1._auto_1) (hpl:autoParam ((backTo pos (starEach [.Name y q] X.env)).any (·.1) = false) au1._auto_1) :
   PE X (.Call (.Name "isinstance" p) [a,.Name y q] [] pos) (tE c Ex (DS.op1 (DS.isiE cls sup m) fa)):=ube_ (vc:=.ref C) (cv:=.ref C) E hk hm hv (q5_ hgy hy rfl hdb) rfl (fun _ h => h) ha hK hg he he2 hpl
theorem qbe_ {p q:Pos} {y:Str} {T:String} {cls:List String} {sup:String→String→Bool} {m:String} (E:ErrCls X.K c.r.ad cls) (hk:∀ n,cls.contains n = true→PySem.W.kitOne X.K (.ref (c.r.ad n)) (.type T) = some (sup n m))
   (hm:X.mg "isinstance" = none) (hv:bootBuiltins "isinstance" = some (.builtin "isinstance")) (hy:X.mg y = none) (hb:bootBuiltins y = some (.type T)) (ha:PE X a (tE c Ex fa)) (hgy:autoParam (Gl X y) au1._auto_1) (hn:autoParam (y ≠ "__name__") au2._auto_1) (hdb:autoParam ((y == ("__debug__":Str)) = false) au2._auto_1) (hK:autoParam (X.K = c.r.K) au1._auto_1) (hg:autoParam (Gl X "isinstance") au1._auto_1)
   (he:autoParam (starEach [a,.Name y q] X.env = (false,eval a X.env) :: starEach [.Name y q] X.env) au1._auto_1) (he2:autoParam (starEach [.Name y q] X.env = (false,eval (.Name y q) X.env) :: starEach [] X.env) au1._auto_1) (hpl:autoParam ((backTo pos (starEach [.Name y q] X.env)).any (·.1) = false) au1._auto_1) :
   PE X (.Call (.Name "isinstance" p) [a,.Name y q] [] pos) (tE c Ex (DS.op1 (DS.isiE cls sup m) fa)):=ube_ (vc:=.ty T) (cv:=.type T) E hk hm hv (kay_ hgy hy hb rfl hn hdb) rfl (fun _ h => h) ha hK hg he he2 hpl
end
end L2
namespace L2
open PySem PySem.Spec PyProof.Rows
open DS (D Sl Rho R M FS O Tg)
noncomputable def Yld (r:Rc) (J:It) (d:D) (v:V) (ds:List D):Prop:=∀ H G,Same G H→Rep r G d v →
 (∀ i,i < ds.length→J.go i H) ∧ (∀ i,ds.length ≤ i→J.stop i H) ∧ ∀ i x H',i < ds.length→J.yld i H x H'→H' = H ∧ ∃ e,ds[i]? = some e ∧ Rep r G e x
noncomputable def tI (c:Db) (Ex:St→XK) (f:M (List D)):TI:=fun σ H Q => ∃ ρ G hs ts us ρ' r,SR c ρ σ H G hs ts us ∧ f ρ = some (ρ',r) ∧ match r with
 | .ok ds => ∀ J H' G' d v,SR c ρ' σ H' G' hs (d :: ts) (v :: us)→Yld c.r J d v ds→Q J H'
 | .er n => ∀ H' G',SR c ρ' σ H' G' hs ts us→Ex σ (.ref (c.r.ad n)) none H'
section
variable {X:Cx} {c:Db} {Ex:St→XK} {tg a b e:Expr} {pos:Pos} {fa:M D} {fs:M (List D)}
theorem zbf_ {l:Expr} {tl:TE} (hl:PE X l tl):PI X tg l (fun σ H Q => tl σ H fun x H1 => (∃ a,x = .ref a ∧ (∃ xs,SqL X.K H1 a xs) ∧ Q (Itl X.K a) H1) ∨ (∃ a,x = .ref a ∧ (∃ xs,SqT X.K H1 a xs) ∧ Q (Itt X.K a) H1)):=by
 intro pins s σ H Q I h
 refine thn (hl pins s σ H _ I h) fun v s1 ⟨x,H1,I1,r1,q1⟩ => ?_
 rcases q1 with ⟨a,e,⟨xs,hq⟩,q⟩ | ⟨a,e,⟨xs,hq⟩,q⟩
 · subst e
   cases r1
   (refine DX.x1_3 (I1.list hq) ?_; rintro its rv p hz)
   refine wpAny_pyIter_list p.isList ?_
   refine ⟨s1.heap.objs.size,[s1.heap.objs.size],_,_,H1,rfl,I1.kept (t':=s1.toks) fun b o e => Heap.get?_push_of_some _ e,jag_ a _,⟨_,Heap.get?_push_size _ rfl,rfl,rfl⟩,fun b hb => ?_,q⟩
   have e:b = s1.heap.objs.size:=by simpa using hb
   subst e
   exact I1.fpOk (Nat.le_refl _) (I1.hok.fresh (Nat.le_refl _))
 · subst e
   cases r1
   (refine DX.x1_3 (I1.tuple hq) ?_; rintro its rv p hz)
   refine wpAny_pyIter_tuple (show s1.heap.IsTuple a its.toArray from p) ?_
   refine ⟨s1.heap.objs.size,[s1.heap.objs.size],_,_,H1,rfl,I1.kept (t':=s1.toks) fun b o e => Heap.get?_push_of_some _ e,jac_ a _,⟨_,Heap.get?_push_size _ rfl,rfl,rfl⟩,fun b hb => ?_,q⟩
   have e:b = s1.heap.objs.size:=by simpa using hb
   subst e
   exact I1.fpOk (Nat.le_refl _) (I1.hok.fresh (Nat.le_refl _))
theorem va4_ {r:Rc} {a:Addr} {ds:List D}:Yld r (Itl r.K a) (.lst ds) (.ref a) ds:=by
 intro H G sub h
 rw [Rep] at h
 (refine DX.x2_4 h ?_; try clear h; rintro a' vs e qa la ta)
 cases e
 have hl:=ta.length
 have hq:=sub.seq qa
 refine ⟨fun i hi => ⟨vs,vs[i],hq,by simp [show i < vs.length by omega]⟩,fun i hi => ⟨vs,hq,by omega⟩,fun i x H' hi y => ?_⟩
 obtain ⟨e1,y⟩:=y
 (refine DX.x1_2 (ta.get_of (y vs hq)) ?_; rintro d h1 h2)
 exact ⟨e1,d,h1,h2⟩
theorem ua4_ {r:Rc} {a:Addr} {ds:List D}:Yld r (Itt r.K a) (.tup ds) (.ref a) ds:=by
 intro H G sub h
 rw [Rep] at h
 (refine DX.x2_4 h ?_; try clear h; rintro a' vs e qa la ta)
 cases e
 have hl:=ta.length
 have hq:=sub.seqT qa
 refine ⟨fun i hi => ⟨vs,vs[i],hq,by simp [show i < vs.length by omega]⟩,fun i hi => ⟨vs,hq,by omega⟩,fun i x H' hi y => ?_⟩
 obtain ⟨e1,y⟩:=y
 (refine DX.x1_2 (ta.get_of (y vs hq)) ?_; rintro d h1 h2)
 exact ⟨e1,d,h1,h2⟩
theorem zu_ (ha:PE X a (tE c Ex fa)) (hK:autoParam (X.K = c.r.K) au1._auto_1):PI X tg a (tI c Ex (DS.itE fa)):=(zbf_ ha).imp fun σ H Q h => by
 (refine DX.x7_3 h ?_; try clear h; rintro ρ G hs ts us ρ' r s e hf)
 unfold DS.itE DS.bnd at e
 cases q:fa ρ with
 | none => rw [q] at e; cases e
 | some p =>
   obtain ⟨ρ1,x⟩:=p
   rw [q] at e
   cases x with
   | er n => cases e; exact ⟨ρ,G,hs,ts,us,_,.er n,s,q,hf⟩
   | ok d =>
     refine ⟨ρ,G,hs,ts,us,ρ1,.ok d,s,q,fun v H1 G1 s1 r1 => ?_⟩
     (refine DX.x1_3 (ub_ e) ?_; rintro ds e1 rfl rfl)
     cases d with
     | lst xs =>
       delta DS.ja_ at e1; dsimp only at e1
       cases e1
       have r1':=r1
       rw [Rep] at r1'
       (refine DX.x2_4 r1' ?_; try clear r1'; rintro a vs rfl qa la ta)
       refine .inl ⟨a,rfl,⟨vs,by rw [hK]; exact s1.sub.seq qa⟩,?_⟩
       rw [hK]
       exact hf _ H1 G1 _ _ (s1.push r1) va4_
     | tup xs =>
       delta DS.ja_ at e1; dsimp only at e1
       cases e1
       have r1':=r1
       rw [Rep] at r1'
       (refine DX.x2_4 r1' ?_; try clear r1'; rintro a vs rfl qa la ta)
       refine .inr ⟨a,rfl,⟨vs,by rw [hK]; exact s1.sub.seqT qa⟩,?_⟩
       rw [hK]
       exact hf _ H1 G1 _ _ (s1.push r1) ua4_
     | _ => cases e1
theorem zal_ {r:Rc} {lo hi:Int}:Yld r (Itr lo (hi - lo).toNat) .non .non (DS.rng lo hi):=by
 intro H G sub h
 have hl:(DS.rng lo hi).length = (hi - lo).toNat:=by unfold DS.rng; simp
 refine ⟨fun i hi => by rw [hl] at hi; exact hi,fun i hi => by rw [hl] at hi; exact hi,fun i x H' hi' y => ?_⟩
 obtain ⟨e1,rfl⟩:=y
 rw [hl] at hi'
 refine ⟨e1,.int (lo + i),?_,by rw [Rep]⟩
 unfold DS.rng
 simp [hi']
theorem Yld.z {r:Rc} {lo hi:Int} (h:lo = 0):Yld r (Itr 0 hi.toNat) .non .non (DS.rng 0 hi):=by
 have:=@zal_ r 0 hi
 simpa using this
theorem vv_ {p:Pos} (hm:X.mg "range" = none) (ha:PA X [a] (tA c Ex fs)) (hg:autoParam (Gl X "range") au1._auto_1) (hs:autoParam (starEach [a] X.env = [(false,eval a X.env)]) au1._auto_1):PI X tg (.Call (.Name "range" p) [a] [] pos) (tI c Ex (DS.itR1 fs)):=(kag_ hg hm ha hs).imp fun σ H Q h => by
 (refine DX.x7_3 h ?_; try clear h; rintro ρ G hs ts us ρ' r s e hf)
 unfold DS.itR1 DS.bnd at e
 cases q:fs ρ with
 | none => rw [q] at e; cases e
 | some p =>
   obtain ⟨ρ1,x⟩:=p
   rw [q] at e
   cases x with
   | er n => cases e; exact ⟨ρ,G,hs,ts,us,_,.er n,s,q,hf⟩
   | ok d =>
     refine ⟨ρ,G,hs,ts,us,ρ1,.ok d,s,q,fun v H1 G1 s1 r1 => ?_⟩
     (refine DX.x1_3 (ub_ e) ?_; rintro ds e1 rfl rfl)
     match d,e1 with
     | [.int j],e1 =>
       delta DS.rg1 at e1; dsimp only at e1
       split at e1
       · rename_i hj
         cases e1
         (refine DX.x2_3 r1.cons_inv ?_; rintro v0 t rfl hv ht)
         cases ht.nil_inv
         rw [Rep] at hv
         subst hv
         replace hj:=DS.uai_ hj
         simp only [Bool.and_eq_true,decide_eq_true_eq] at hj
         exact ⟨j,rfl,hj.1,hj.2,hf _ H1 G1 .non .non (s1.push (by rw [Rep])) (Yld.z (lo:=0) rfl)⟩
       · cases e1
theorem ybf_ {p:Pos} (hm:X.mg "range" = none) (ha:PA X [a,b] (tA c Ex fs)) (hg:autoParam (Gl X "range") au1._auto_1) (hs:autoParam (starEach [a,b] X.env = [(false,eval a X.env),(false,eval b X.env)]) au1._auto_1) (hs2:autoParam (starEach [b] X.env = [(false,eval b X.env)]) au1._auto_1) :
   PI X tg (.Call (.Name "range" p) [a,b] [] pos) (tI c Ex (DS.itR2 fs)):=(vag_ hg hm ha hs hs2).imp fun σ H Q h => by
 (refine DX.x7_3 h ?_; try clear h; rintro ρ G hs ts us ρ' r s e hf)
 unfold DS.itR2 DS.bnd at e
 cases q:fs ρ with
 | none => rw [q] at e; cases e
 | some p =>
   obtain ⟨ρ1,x⟩:=p
   rw [q] at e
   cases x with
   | er n => cases e; exact ⟨ρ,G,hs,ts,us,_,.er n,s,q,hf⟩
   | ok d =>
     refine ⟨ρ,G,hs,ts,us,ρ1,.ok d,s,q,fun v H1 G1 s1 r1 => ?_⟩
     (refine DX.x1_3 (ub_ e) ?_; rintro ds e1 rfl rfl)
     match d,e1 with
     | [.int i,.int j],e1 =>
       delta DS.rg2 at e1; dsimp only at e1
       split at e1
       · rename_i hj
         cases e1
         (refine DX.x2_3 r1.cons_inv ?_; rintro v0 t rfl hv ht)
         (refine DX.x2_3 ht.cons_inv ?_; rintro v1 t rfl hv1 ht)
         cases ht.nil_inv
         rw [Rep] at hv; rw [Rep] at hv1
         subst hv
         subst hv1
         rw [Bool.and_eq_true] at hj
         replace hj:=And.intro (DS.uai_ hj.1) (DS.uai_ hj.2)
         simp only [Bool.and_eq_true,decide_eq_true_eq] at hj
         exact ⟨i,j,rfl,⟨hj.1.1,hj.1.2,hj.2.1,hj.2.2⟩,hf _ H1 G1 .non .non (s1.push (by rw [Rep])) zal_⟩
       · cases e1
end
noncomputable def js_:Tg→List Nat
 | .nm i => [i]
 | .tp is => is
noncomputable def Upto (is:List Nat) (σ σ':St):Prop:=σ'.length = σ.length ∧ ∀ j,j ∉ is→σ'[j]? = σ[j]?
noncomputable def tG (c:Db) (tg:Tg):TG:=fun v σ H Q => ∃ ρ G hs ts us d ρ',SR c ρ σ H G hs ts us ∧ Rep c.r G d v ∧ DS.asg tg d ρ = some ρ' ∧ ∀ σ',SR c ρ' σ' H G hs ts us→Upto (js_ tg) σ σ'→Q σ' H
section
variable {X:Cx} {c:Db} {pos:Pos} {es:List Expr}
theorem d_nm (i:Nat) {x:Str} (hN:X.N.Nodup) (hi:autoParam (X.N[i]? = some x) au1._auto_1) (hx:autoParam (Loc X.env.scope x) au5._auto_1) (hf:autoParam (X.fn x = true ∨ X.env.scope.names.lookup x = some .local) au4._auto_1):PG X (.Name x pos) (tG c (.nm i)):=by
 intro pins s σ H v u Q I r h
 refine wag_ hN hi hx hf pins s σ H v u Q I r ?_
 (refine DX.x7_4 h ?_; try clear h; rintro ρ G hs ts us d ρ' sr rp e k)
 (try delta DS.asg at e); (try dsimp only at e)
 cases e
 refine k _ (sr.bind rp i) ⟨by simp,fun j hj => ?_⟩
 simp [js_] at hj
 rw [List.getElem?_set_ne (Ne.symm hj)]
noncomputable def tGs (c:Db) (is:List Nat):TGs:=fun vs σ H Q => ∃ ρ G hs ts us ds,SR c ρ σ H G hs ts us ∧ Reps c.r G ds vs ∧ ds.length = is.length ∧ ∀ σ',SR c (DS.sets is ds ρ) σ' H G hs ts us→Upto is σ σ'→Q σ' H
theorem d_gn:PGs X [] (tGs c []):=by
 intro pins s σ H vs us Q I r h
 refine yaz_ pins s σ H vs us Q I r ?_
 (refine DX.x6_4 h ?_; try clear h; rintro ρ G hs ts us ds sr rp hl k)
 cases ds with
 | nil => exact ⟨rp.nil_inv,k σ sr ⟨rfl,fun _ _ => rfl⟩⟩
 | cons _ _ => simp at hl
theorem d_gc (i:Nat) {x:Str} {is:List Nat} {p:Pos} (hr:PGs X es (tGs c is)) (hN:X.N.Nodup) (hi:autoParam (X.N[i]? = some x) au1._auto_1) (hx:autoParam (Loc X.env.scope x) au5._auto_1) (hf:autoParam (X.fn x = true ∨ X.env.scope.names.lookup x = some .local) au4._auto_1)
   (hs:autoParam ((assignEach (.Name x p :: es) X.env).map (·.2) = assign (.Name x p) X.env :: (assignEach es X.env).map (·.2)) au1._auto_1):PGs X (.Name x p :: es) (tGs c (i :: is)):=by
 intro pins s σ H vs us Q I r h
 refine yap_ (wag_ hN hi hx hf) hr hs pins s σ H vs us Q I r ?_
 (refine DX.x6_4 h ?_; try clear h; rintro ρ G hs ts us ds sr rp hl k)
 cases ds with
 | nil => simp at hl
 | cons d ds =>
   (refine DX.x2_3 rp.cons_inv ?_; rintro v t rfl q z)
   refine ⟨v,t,rfl,ρ.set i (.sh d),G,hs,ts,us,ds,sr.bind q i,z,by simpa using hl,fun σ' sr' up => k σ' sr' ⟨?_,fun j hj => ?_⟩⟩
   · rw [up.1]; simp
   · simp at hj
     rw [up.2 j hj.2,List.getElem?_set_ne (Ne.symm hj.1)]
theorem d_tp {is:List Nat} {k:Nat} (hc:X.calm = true) (h:PGs X es (tGs c is)) (hn:autoParam ((assignEach es X.env).length = is.length) au1._auto_1) (hst:autoParam ((assignEach es X.env).findIdx? (·.1) = none) au1._auto_1) (hK:autoParam (X.K = c.r.K) au1._auto_1):PG X (.Tuple es k pos) (tG c (.tp is)):=by
 intro pins s σ H v u Q I r hw
 refine ka8_ hc h hn hst pins s σ H v u Q I r ?_
 (refine DX.x7_4 hw ?_; try clear hw; rintro ρ G hs ts us d ρ' sr rp e kk)
 cases d with
 | tup ds =>
   (try delta DS.asg at e); (try dsimp only at e)
   split at e
   · rename_i hl
     cases e
     rw [Rep] at rp
     (refine DX.x2_4 rp ?_; try clear rp; rintro a vs rfl qa la ta)
     exact ⟨a,vs,rfl,by rw [hK]; exact sr.sub.seqT qa,by rw [← ta.length]; exact hl,ρ,G,hs,ts,us,ds,sr,ta,hl,kk⟩
   · cases e
 | _ => cases e
end
section
variable {c:Db} {ρ ρ':Rho} {σ σ':St} {H G:Hp} {hs:List (Addr × List V)} {ts:List D} {us:List V}
theorem SR.wide (s:SR c ρ σ H G hs ts us) (k:Nat):SR c (ρ ++ List.replicate k .un) (σ ++ List.replicate k none) H G hs ts us:=by
 have low:∀ (i:Nat) (x:Sl),(ρ ++ List.replicate k Sl.un)[i]? = some x→x ≠ .un→ρ[i]? = some x ∧ i < σ.length:=fun i x h hx => by
   by_cases hi:i < ρ.length
   · rw [List.getElem?_append_left hi] at h
     exact ⟨h,by rw [← s.ln]; exact hi⟩
   · rw [List.getElem?_append_right (by omega)] at h
     obtain ⟨_,z⟩:=List.getElem?_eq_some_iff.mp h
     simp at z
     exact absurd z.symm hx
 refine ⟨s.ext,by simp [s.ln],fun i d h => ?_,fun i ds h => ?_,fun i j ds es a h1 h2 h3 h4 => ?_,s.hd,s.nd,s.tu⟩
 · obtain ⟨h1,h2⟩:=low i _ h (by simp)
   (refine DX.x1_2 (s.sh i d h1) ?_; rintro v q1 q2)
   exact ⟨v,by rw [List.getElem?_append_left h2]; exact q1,q2⟩
 · obtain ⟨h1,h2⟩:=low i _ h (by simp)
   (refine DX.x2_2 (s.ow i ds h1) ?_; rintro a vs q1 q2)
   exact ⟨a,vs,by rw [List.getElem?_append_left h2]; exact q1,q2⟩
 · obtain ⟨a1,a2⟩:=low i _ h1 (by simp)
   obtain ⟨b1,b2⟩:=low j _ h2 (by simp)
   rw [List.getElem?_append_left a2] at h3
   rw [List.getElem?_append_left b2] at h4
   exact s.inj i j ds es a a1 b1 h3 h4
theorem SR.narrow {n:Nat} (s:SR c ρ' σ' H G hs ts us) (hl:σ.length = n) (hle:n ≤ σ'.length) (h:∀ j,j < n→σ'[j]? = σ[j]?):SR c (ρ'.take n) σ H G hs ts us:=by
 have low:∀ (i:Nat) (x:Sl),(ρ'.take n)[i]? = some x→ρ'[i]? = some x ∧ i < n:=fun i x q => by
   have hi:i < n:=by have:=(List.getElem?_eq_some_iff.mp q).1; simp at this; omega
   rw [List.getElem?_take_of_lt hi] at q
   exact ⟨q,hi⟩
 refine ⟨s.ext,by rw [List.length_take,s.ln]; omega,fun i d q => ?_,fun i ds q => ?_,fun i j ds es a h1 h2 h3 h4 => ?_,s.hd,s.nd,s.tu⟩
 · obtain ⟨h1,h2⟩:=low i _ q
   (refine DX.x1_2 (s.sh i d h1) ?_; rintro v q1 q2)
   exact ⟨v,by rw [← h i h2]; exact q1,q2⟩
 · obtain ⟨h1,h2⟩:=low i _ q
   (refine DX.x2_2 (s.ow i ds h1) ?_; rintro a vs q1 q2)
   exact ⟨a,vs,by rw [← h i h2]; exact q1,q2⟩
 · obtain ⟨a1,a2⟩:=low i _ h1
   obtain ⟨b1,b2⟩:=low j _ h2
   exact s.inj i j ds es a a1 b1 (by rw [h i a2]; exact h3) (by rw [h j b2]; exact h4)
theorem SR.hold (s:SR c ρ σ H G hs ts us) {p:Addr} (hp:H p = none):SR c ρ σ (upd H p (.lst [])) G ((p,[]) :: hs) ts us:=by
 have hg:G p = none:=s.sub.free hp
 have mono:Same H (upd H p (.lst [])):=Same.upd hp
 refine ⟨⟨s.ext.same.trans mono,s.ext.view,s.ext.sub.trans mono,s.ext.new⟩,s.ln,s.sh,fun i ds h => ?_,s.inj,fun q hq => ?_,?_,s.tu⟩
 · (refine DX.x2_7 (s.ow i ds h) ?_; rintro a vs q1 q2 q3 q4 q5 q6 q7)
   refine ⟨a,vs,q1,mono _ _ q2,q3,q4,q5,q6,fun z hz => ?_⟩
   rcases List.mem_cons.mp hz with rfl | hz
   · exact fun e => by rw [show p = a from e] at hp; rw [hp] at q2; cases q2
   · exact q7 z hz
 · rcases List.mem_cons.mp hq with rfl | hq
   · exact ⟨yb_,hg,s.ext.same.free hp⟩
   · (refine DX.x0_3 (s.hd q hq) ?_; rintro q1 q2 q3)
     exact ⟨mono _ _ q1,q2,q3⟩
 · rw [List.map_cons,List.nodup_cons]
   refine ⟨fun hm => ?_,s.nd⟩
   (refine DX.x1_2 (List.mem_map.mp hm) ?_; rintro z hz e)
   have:=(s.hd z hz).1
   rw [show z.1 = p from e,hp] at this
   cases this
theorem SR.held {p:Addr} {vs:List V} (s:SR c ρ σ H G ((p,vs) :: hs) ts us) (v:V):SR c ρ σ (upd H p (.lst (vs ++ [v]))) G ((p,vs ++ [v]) :: hs) ts us:=by
 (refine DX.x0_3 (s.hd (p,vs) (by simp)) ?_; rintro h1 h2 h3)
 have nd:=s.nd
 rw [List.map_cons,List.nodup_cons] at nd
 have oth:∀ b o,b ≠ p→H b = some o→upd H p (.lst (vs ++ [v])) b = some o:=fun b o n e => by rw [zb_ n]; exact e
 refine ⟨⟨fun b o e => oth b o (wb_ e h3) (s.ext.same b o e),s.ext.view,fun b o e => oth b o (wb_ e h2) (s.ext.sub b o e),s.ext.new⟩,s.ln,s.sh,fun i ds h => ?_,s.inj,fun q hq => ?_,by rw [List.map_cons,List.nodup_cons]; exact nd,s.tu⟩
 · (refine DX.x2_7 (s.ow i ds h) ?_; rintro a ws q1 q2 q3 q4 q5 q6 q7)
   have hne:p ≠ a:=q7 (p,vs) (by simp)
   refine ⟨a,ws,q1,oth a _ (Ne.symm hne) q2,q3,q4,q5,q6,fun z hz => ?_⟩
   rcases List.mem_cons.mp hz with rfl | hz
   · exact hne
   · exact q7 z (by simp [hz])
 · rcases List.mem_cons.mp hq with rfl | hq
   · exact ⟨yb_,h2,h3⟩
   · (refine DX.x0_3 (s.hd q (by simp [hq])) ?_; rintro q1 q2 q3)
     refine ⟨oth _ _ (fun e => nd.1 ?_) q1,q2,q3⟩
     exact e ▸ List.mem_map_of_mem (f:=(·.1)) hq
theorem SR.given {p:Addr} {vs:List V} {ds:List D} (s:SR c ρ σ H G ((p,vs) :: hs) ts us) (h:Reps c.r G ds vs) (hz:vs.length ≤ sizeLine):SR c ρ σ H (upd G p (.lst vs)) hs ts us ∧ Rep c.r (upd G p (.lst vs)) (.lst ds) (.ref p):=by
 (refine DX.x0_3 (s.hd (p,vs) (by simp)) ?_; rintro h1 h2 h3)
 have nd:=s.nd
 rw [List.map_cons,List.nodup_cons] at nd
 have mono:Same G (upd G p (.lst vs)):=Same.upd h2
 refine ⟨⟨⟨s.ext.same,s.ext.view.trans mono,fun b o e => ?_,fun b o e => ?_⟩,s.ln,fun i d e => ?_,fun i es e => ?_,s.inj,fun q hq => ?_,nd.2,s.tu.mono mono⟩,?_⟩
 · by_cases hb:b = p
   · subst hb; rw [yb_] at e; cases e; exact h1
   · rw [zb_ hb] at e; exact s.ext.sub b o e
 · by_cases hb:b = p
   · subst hb; exact .inr h3
   · rw [zb_ hb] at e; exact s.ext.new b o e
 · (refine DX.x1_2 (s.sh i d e) ?_; rintro v q1 q2)
   exact ⟨v,q1,q2.mono mono⟩
 · (refine DX.x2_7 (s.ow i es e) ?_; rintro a ws q1 q2 q3 q4 q5 q6 q7)
   have hne:p ≠ a:=q7 (p,vs) (by simp)
   exact ⟨a,ws,q1,q2,by rw [zb_ (Ne.symm hne)]; exact q3,q4,q5,q6.mono mono,fun z hz => q7 z (by simp [hz])⟩
 · (refine DX.x0_3 (s.hd q (by simp [hq])) ?_; rintro q1 q2 q3)
   have hne:q.1 ≠ p:=fun e => nd.1 (e ▸ List.mem_map_of_mem (f:=(·.1)) hq)
   exact ⟨q1,by rw [zb_ hne]; exact q2,q3⟩
 · rw [Rep]
   exact ⟨p,vs,rfl,SqL.of yb_,hz,h.mono mono⟩
theorem SR.pre {q:Addr × List V} (s:SR c ρ σ H G (q :: hs) ts us):H q.1 = some (.lst q.2):=(s.hd q (by simp)).1
end
noncomputable abbrev noX:St→XK:=fun _ => E0
section
variable {c:Db} {tg:Tg} {fc:M Bool} {fe:M D}
theorem y3_ {n:Nat} (h:DS.above n tg = true):∀ i ∈ js_ tg,n ≤ i:=by
 intro i hi
 cases tg with
 | nm j => simp [js_] at hi; subst hi; simpa [DS.above] using h
 | tp is => simp [js_] at hi; simp [DS.above] at h; exact h i hi
theorem Reps.append_inv {r:Rc} {G:Hp}:∀ {ds es:List D} {vs us:List V},Reps r G (ds ++ es) (vs ++ us)→ds.length = vs.length→Reps r G ds vs ∧ Reps r G es us
 | [],_,[],_,h,_ => ⟨.nil,h⟩
 | [],_,_ :: _,_,_,e => by simp at e
 | _ :: _,_,[],_,_,e => by simp at e
 | d :: ds,es,v :: vs,us,h,e => by
   (refine DX.x2_3 (Reps.cons_inv (d:=d) (ds:=ds ++ es) h) ?_; rintro v' t e1 q z)
   have e1':v = v' ∧ vs ++ us = t:=by simpa using e1
   obtain ⟨rfl,rfl⟩:=e1'
   obtain ⟨h1,h2⟩:=Reps.append_inv z (by simpa using e)
   exact ⟨.cons q h1,h2⟩
theorem SR.split {ρ:Rho} {σ:St} {H G:Hp} {hs:List (Addr × List V)} {ts:List D} {us:List V} {ds:List D} {vs:List V} (s:SR c ρ σ H G hs (ds ++ ts) (vs ++ us)) (h:ds.length = vs.length):Reps c.r G ds vs ∧ SR c ρ σ H G hs ts us:=by
 obtain ⟨h1,h2⟩:=s.tu.append_inv h
 exact ⟨h1,s.ext,s.ln,s.sh,s.ow,s.inj,s.hd,s.nd,h2⟩
theorem yal_ {J:It} {D0:Addr} {Q:VK} {σ0:St} {H0 G0:Hp} {ρ1 ρ2:Rho} {k:Nat} {ds acc0:List D} {d:D} {v:V} {hs:List (Addr × List V)} {ts:List D} {us:List V} (s0:SR c ρ1 σ0 H0 G0 hs (d :: ts) (v :: us)) (hy:Yld c.r J d v ds) (hz:ds.length ≤ sizeLine) (ha:DS.above ρ1.length tg = true) (hD:H0 D0 = none)
   (e:DS.kj_ tg fc fe ds [] (ρ1 ++ List.replicate k .un) = some (ρ2,acc0)) (q:∀ p vs H' G',SR c (ρ2.take ρ1.length) σ0 H' G' hs ts us→H' p = some (.lst vs)→Reps c.r G' acc0 vs→Rep c.r G' (.lst acc0) (.ref p)→Q (.ref p) H') :
   wai_ J (tG c tg) (tT c noX fc) (tE c noX fe) D0 Q (σ0 ++ List.replicate k none) H0:=by
 have ab:=y3_ ha
 refine ⟨fun i m vals σ1 H => m = ds.length - i ∧ i ≤ ds.length ∧ vals.length ≤ i ∧ (∀ j,j < ρ1.length→σ1[j]? = σ0[j]?) ∧ ∃ ρ G acc,SR c ρ σ1 H G ((D0,vals) :: hs) (acc ++ d :: ts) (vals ++ v :: us) ∧ ρ1.length ≤ σ1.length ∧ acc.length = vals.length ∧ DS.kj_ tg fc fe (ds.drop i) acc ρ = some (ρ2,acc0),⟨ds.length,by simp,Nat.zero_le _,Nat.le_refl _,fun j hj => ?_,_,G0,[],(s0.wide k).hold hD,?_,rfl,by simpa using e⟩,?_⟩
 · rw [List.getElem?_append_left (by rw [← s0.ln]; exact hj)]
 · simp [s0.ln]
 (rintro i m vals σ1 H zz; refine DX.x0_5 zz ?_; try clear zz; (rintro rfl hi hvi hsame zz; refine DX.x3_4 zz ?_; try clear zz; rintro ρ G acc s hlen hal e1))
 refine ⟨s.pre,?_⟩
 obtain ⟨ta,sd⟩:=s.split hal
 obtain ⟨rd,_⟩:=sd.pop1
 (refine DX.x0_3 (hy H G s.sub rd) ?_; rintro hgo hstop hyl)
 by_cases hlt:i < ds.length
 · refine .inr ⟨hgo i hlt,by omega,fun x H' y => ?_⟩
   obtain ⟨rfl,e0,e2,rx⟩:=hyl i x H' hlt y
   have hdrop:ds.drop i = e0 :: ds.drop (i + 1):=by
     have:=List.getElem?_eq_some_iff.mp e2
     obtain ⟨h1,h2⟩:=this
     rw [← h2]; exact List.drop_eq_getElem_cons h1
   rw [hdrop] at e1
   refine DS.qai_ e1 fun ρa q1 ρb bb q2 kf kt => ?_
   refine ⟨ρ,G,_,_,_,e0,ρa,s,rx,q1,fun σ2 s2 up => ?_⟩
   have same2:∀ j,j < ρ1.length→σ2[j]? = σ0[j]?:=fun j hj => by
     rw [up.2 j (fun hm => by have:=ab j hm; omega)]; exact hsame j hj
   have len2:ρ1.length ≤ σ2.length:=by rw [up.1]; exact hlen
   refine ⟨ρa,G,_,_,_,ρb,.ok bb,s2,q2,fun b' H3 G3 s3 r3 => ?_⟩
   subst r3
   cases bb with
   | false =>
     rw [if_neg (by simp)]
     exact ⟨ds.length - (i + 1),by omega,rfl,hlt,by omega,same2,ρb,G3,acc,s3,len2,hal,kf rfl⟩
   | true =>
     rw [if_pos rfl]
     (refine DX.x2_2 (kt rfl) ?_; rintro ρd ve q3 e3)
     refine ⟨ρb,G3,_,_,_,ρd,.ok ve,s3,q3,fun w H4 G4 s4 r4 => ?_⟩
     refine ⟨s4.pre,ds.length - (i + 1),by omega,rfl,hlt,by simp; omega,same2,ρd,G4,acc ++ [ve],?_,len2,by simp [hal],e3⟩
     obtain ⟨ta4,sd4⟩:=s4.split hal
     exact (sd4.pushs (ta4.snoc r4)).held w
 · have e3:i = ds.length:=by omega
   subst e3
   rw [List.drop_length] at e1
   cases e1
   refine .inl ⟨hstop _ (Nat.le_refl _),?_⟩
   obtain ⟨_,sd2⟩:=sd.pop1
   obtain ⟨s6,r6⟩:=sd2.given ta (by omega)
   exact q _ vals H _ (s6.narrow (by rw [s0.ln]) hlen hsame) s.pre (ta.mono (Same.upd (s.hd (D0,vals) (by simp)).2.1)) r6
theorem x3_ {Ex:St→XK} {fi:M (List D)} {k:Nat} {σ:St} {H:Hp} {Q:VK} (h:tE c Ex (DS.yf_ fi tg k fc fe) σ H Q):j6_ (tI c Ex fi) (tG c tg) (tT c noX fc) (tE c noX fe) k σ H Q:=by
 (refine DX.x7_3 h ?_; try clear h; rintro ρ G hs ts us ρ' r s e hf)
 refine DS.zaj_ e (fun x q hr => ?_) (fun ρ1 ds q hz ha ρ2 acc q2 e1 hr => ?_)
 · subst hr
   exact ⟨ρ,G,hs,ts,us,_,.er x,s,q,hf⟩
 · subst hr e1
   exact ⟨ρ,G,hs,ts,us,ρ1,.ok ds,s,q,fun J H1 G1 d v s1 hy D0 hD => yal_ s1 hy hz ha hD q2 fun p vs H' G' s' _ _ r' => hf _ H' G' s' r'⟩
end
section
variable {X:Cx} {c:Db} {Ex:St→XK} {scope:Scope} {ns:List Str} {tg iter elt:Expr} {ifs:List Expr} {pos:Pos} {fi:M (List D)} {g:Tg} {fc:M Bool} {fe:M D}
theorem kae_:PTs X [] (tT c noX DS.yes):=xai_.imp fun σ H Q h => by
 (refine DX.x7_3 h ?_; try clear h; rintro ρ G hs ts us ρ' r s e hf)
 obtain ⟨rfl,rfl⟩:=xf_ e
 exact hf true H G s rfl
theorem xbf_ {t:Expr} (h:PT X t (tT c noX fc)):PTs X [t] (tT c noX fc):=va0_ h
theorem uv_ (hi:PI X tg iter (tI c Ex fi)) (hg:∀ C s H fp,PG (X.block scope ns C s H fp) tg (tG c g)) (ht:∀ C s H fp,PTs (X.block scope ns C s H fp) ifs (tT c noX fc)) (he:∀ C s H fp,PE (X.block scope ns C s H fp) elt (tE c noX fe))
   (hc:autoParam (X.calm = true) au1._auto_1) (chk:autoParam (ji_ X.env.scope scope X.N = true) au1._auto_1) (hs:autoParam (∀ x,foldedSetIterable iter X.env x = pure x) au3._auto_1):PE X (.ListComp elt [⟨tg,iter,ifs,0⟩] scope pos) (tE c Ex (DS.yf_ fi g ns.length fc fe)) :=
 (ua0_ hc chk hi hg ht he hs).imp fun _ _ _ h => x3_ h
end
end L2
namespace HT
open PySem PyProof.Rows
open AutoSeq1 (wpAny_loadPart')
section
variable {prog:Program} {w:World} {A:Around} {E:Value→Shared→Prop} {s:Shared}
end
end HT
namespace L2
open PySem PySem.Spec PyProof.Rows
open DS (D Sl Rho R M FS O Tg)
section
variable {X:Cx} {r:Rc}
end
section
variable {X:Cx} {c:Db} {Ex:St→XK} {tg a b e:Expr} {pos:Pos} {fa:M D} {fs:M (List D)}
end
end L2
namespace L2
open PySem PySem.Spec PyProof.Rows
open DS (D Sl Rho R M FS O Tg)
noncomputable def FinS (c:Db) (Ex:St→XK) (hs:List (Addr × List V)) (ts:List D) (us:List V) (ρ':Rho) (o:O) (E:Ends):Prop:=match o with
 | .nx => ∀ σ' H' G',SR c ρ' σ' H' G' hs ts us→E.nx σ' H'
 | .rt d => ∀ v σ' H' G',SR c ρ' σ' H' G' hs ts us→Rep c.r G' d v→E.rt v H'
 | .er n => ∀ σ' H' G',SR c ρ' σ' H' G' hs ts us→Ex σ' (.ref (c.r.ad n)) none H'
 | .bk => ∀ σ' H' G',SR c ρ' σ' H' G' hs ts us→E.bk σ' H'
 | .ct => ∀ σ' H' G',SR c ρ' σ' H' G' hs ts us→E.ct σ' H'
noncomputable def tS (c:Db) (Ex:St→XK) (f:FS):TS:=fun E σ H => ∃ ρ G hs ts us ρ' o,SR c ρ σ H G hs ts us ∧ f ρ = some (ρ',o) ∧ FinS c Ex hs ts us ρ' o E
section
variable {X:Cx} {c:Db} {Ex:St→XK} {st:Stmt} {rest:List Stmt} {a e:Expr} {pos:Pos} {fa:M D} {fx:M Bool} {fs:M (List D)} {f g:FS}
theorem jd_:PSs X [] (tS c Ex DS.sNx):=qay_.imp fun E σ H h => by
 (refine DX.x7_3 h ?_; try clear h; rintro ρ G hs ts us ρ' o s e hf)
 unfold DS.sNx at e
 cases e
 exact hf σ H G s
theorem ka_ (h:PS X st (tS c Ex f)):PSs X [st] (tS c Ex f):=zaz_ h
theorem wa_ (h:PS X st (tS c Ex f)) (h2:PSs X rest (tS c Ex g)):PSs X (st :: rest) (tS c Ex (DS.sq f g)):=(zap_ h h2).imp fun E σ H h => by
 (refine DX.x7_3 h ?_; try clear h; rintro ρ G hs ts us ρ' o s e hf)
 unfold DS.sq at e
 cases q:f ρ with
 | none => rw [q] at e; cases e
 | some p =>
   obtain ⟨ρ1,o1⟩:=p
   rw [q] at e
   refine ⟨ρ,G,hs,ts,us,ρ1,o1,s,q,?_⟩
   cases o1 with
   | nx => exact fun σ' H' G' s' => ⟨ρ1,G',hs,ts,us,ρ',o,s',e,hf⟩
   | rt d => cases e; exact hf
   | er n => cases e; exact hf
   | bk => cases e; exact hf
   | ct => cases e; exact hf
theorem xal_ {k:D→FS} {ρ ρ':Rho} {o:O} {σ:St} {H G:Hp} {hs:List (Addr × List V)} {ts:List D} {us:List V} {E:Ends} {Q:VK} (s:SR c ρ σ H G hs ts us) (h:DS.sx fa k ρ = some (ρ',o)) (hf:FinS c Ex hs ts us ρ' o E)
   (ok:∀ ρ1 d v H1 G1,k d ρ1 = some (ρ',o)→SR c ρ1 σ H1 G1 hs ts us→Rep c.r G1 d v→Q v H1):tE c Ex fa σ H Q:=by
 unfold DS.sx at h
 cases q:fa ρ with
 | none => rw [q] at h; cases h
 | some p =>
   obtain ⟨ρ1,x⟩:=p
   rw [q] at h
   cases x with
   | er n => cases h; exact ⟨ρ,G,hs,ts,us,_,.er n,s,q,fun H' G' s' => hf σ H' G' s'⟩
   | ok d => exact ⟨ρ,G,hs,ts,us,ρ1,.ok d,s,q,fun v H1 G1 s1 r1 => ok ρ1 d v H1 G1 h s1 r1⟩
theorem d_sE (ha:PE X a (tE c Ex fa)) (hs:autoParam (swapsWith a none pos.line X.env = pure false) au1._auto_1):PS X (.Expr a pos) (tS c Ex (DS.sE fa)):=(z6_ ha hs).imp fun E σ H h => by
 (refine DX.x7_3 h ?_; try clear h; rintro ρ G hs ts us ρ' o s e hf)
 refine xal_ s e hf fun ρ1 d v H1 G1 e1 s1 r1 => ?_
 cases e1
 exact hf σ H1 G1 s1
theorem d_sR (ha:PE X a (tE c Ex fa)):PS X (.Return (some a) pos) (tS c Ex (DS.sR fa)):=(ja8_ ha).imp fun E σ H h => by
 (refine DX.x7_3 h ?_; try clear h; rintro ρ G hs ts us ρ' o s e hf)
 refine xal_ s e hf fun ρ1 d v H1 G1 e1 s1 r1 => ?_
 cases e1
 exact hf v σ H1 G1 s1 r1
theorem wax_ {i:Nat} {te:TE} {E:Ends} {σ:St} {H:Hp} (hi:∀ σ H Q,tE c Ex fa σ H Q→te σ H Q) (h:tS c Ex (DS.sA (.nm i) fa) E σ H):tAsg te (xag_ i) E σ H:=by
 (refine DX.x7_3 h ?_; try clear h; rintro ρ G hs ts us ρ' o s e hf)
 refine hi _ _ _ (xal_ s e hf fun ρ1 d v H1 G1 e1 s1 r1 => ?_)
 rw [DS.asg] at e1
 cases e1
 exact hf _ H1 G1 (s1.bind r1 i)
theorem d_sA (i:Nat) {x:Str} {pos':Pos} (hN:X.N.Nodup) (ha:PE X a (tE c Ex fa)) (hi:autoParam (X.N[i]? = some x) au1._auto_1) (hx:autoParam (Loc X.env.scope x) au5._auto_1) (hs:autoParam (swapsWith a (some (.Name x pos')) pos.line X.env = pure false) au1._auto_1) (hf:autoParam (X.fn x = true ∨ X.env.scope.names.lookup x = some .local) au4._auto_1) :
   PS X (.Assign [.Name x pos'] a pos) (tS c Ex (DS.sA (.nm i) fa)):=(vav_ hN hi hx ha hs hf).imp fun _ _ _ h => wax_ (fun _ _ _ z => z) h
theorem wal_ (i:Nat) {x:Str} {pos' spos:Pos} {scope:Scope} {ns:List Str} {tg iter elt:Expr} {ifs:List Expr} {fi:M (List D)} {g:Tg} {fc:M Bool} {fe:M D} (hN:X.N.Nodup) (hi:PI X tg iter (tI c Ex fi)) (hg:∀ C s H fp,PG (X.block scope ns C s H fp) tg (tG c g)) (ht:∀ C s H fp,PTs (X.block scope ns C s H fp) ifs (tT c noX fc)) (he:∀ C s H fp,PE (X.block scope ns C s H fp) elt (tE c noX fe))
   (hi':autoParam (X.N[i]? = some x) au1._auto_1) (hx:autoParam (Loc X.env.scope x) au5._auto_1) (hc:autoParam (X.calm = true) au1._auto_1) (chk:autoParam (ji_ X.env.scope scope X.N = true) au1._auto_1)
   (hsw:autoParam (swapsWith (.ListComp elt [⟨tg,iter,ifs,0⟩] scope pos) (some (.Name x pos')) spos.line X.env = pure true) au1._auto_1) (hs:autoParam (∀ x,foldedSetIterable iter X.env x = pure x) au3._auto_1) (hf:autoParam (X.fn x = true ∨ X.env.scope.names.lookup x = some .local) au4._auto_1) :
   PS X (.Assign [.Name x pos'] (.ListComp elt [⟨tg,iter,ifs,0⟩] scope pos) spos) (tS c Ex (DS.sA (.nm i) (DS.yf_ fi g ns.length fc fe))):=(wad_ hN hi' hx hc chk hi hg ht he hsw hs hf).imp fun _ _ _ h => wax_ (fun _ _ _ z => x3_ z) h
theorem d_sO (i:Nat) {x:Str} {pos' lpos:Pos} {es:List Expr} (hN:X.N.Nodup) (ha:PA X es (tA c Ex fs)) (hi:autoParam (X.N[i]? = some x) au1._auto_1) (hx:autoParam (Loc X.env.scope x) au5._auto_1) (hs:autoParam (swapsWith (.List es lpos) (some (.Name x pos')) pos.line X.env = pure false) au1._auto_1) (hf:autoParam (X.fn x = true ∨ X.env.scope.names.lookup x = some .local) au4._auto_1) :
   PS X (.Assign [.Name x pos'] (.List es lpos) pos) (tS c Ex (DS.sO i fs)):=(vav_ hN hi hx (zaw_ ha) hs hf).imp fun E σ H h => by
 (refine DX.x7_3 h ?_; try clear h; rintro ρ G hs ts us ρ' o s e hf)
 unfold DS.sO at e
 cases q:fs ρ with
 | none => rw [q] at e; cases e
 | some p =>
   obtain ⟨ρ1,x⟩:=p
   rw [q] at e
   cases x with
   | er n => cases e; exact ⟨ρ,G,hs,ts,us,_,.er n,s,q,fun H' G' s' => hf σ H' G' s'⟩
   | ok ds =>
     refine ⟨ρ,G,hs,ts,us,ρ1,.ok ds,s,q,fun vs H1 G1 s1 r1 => ?_⟩
     dsimp only at e
     split at e
     · rename_i hz
       cases e
       have hl:=r1.length
       exact ⟨by omega,fun p hp => hf _ _ _ (s1.own r1 hp (by omega) i)⟩
     · cases e
theorem d_sP (i:Nat) {x:Str} {p apos cpos:Pos} (ha:PE X a (tE c Ex fa)) (hN:autoParam (X.N[i]? = some x) au1._auto_1) (hv:autoParam (Vis X.env.scope x) au6._auto_1) (hd:autoParam ((x == ("__debug__":Str)) = false) au2._auto_1) (hcd:autoParam ((x == ("__classdict__":Str)) = false) au2._auto_1)
   (hbase:autoParam (attributeBase (.Name x p) "append" X.env (eval (.Name x p) X.env) = eval (.Name x p) X.env) au1._auto_1)
   (hfew:((backTo cpos (starEach [a] X.env)).all (fun x => !x.1) && (backToKw cpos (keywordEach [] X.env)).all (fun x => x.1.isSome)
     && decide ([a].length + ([]:List Keyword).length + (if ([]:List Keyword).isEmpty then 0 else 1) < 30)) = true:=by rfl)
   (hline:autoParam ((apos.endLine == cpos.line) = true) au1._auto_1) (hs:autoParam (starEach [a] X.env = (false,eval a X.env) :: starEach [] X.env) au1._auto_1) (hplain:autoParam ((backTo cpos (starEach [] X.env)).any (·.1) = false) au1._auto_1)
   (hsw:autoParam (swapsWith (.Call (.Attribute (.Name x p) "append" apos) [a] [] cpos) none pos.line X.env = pure false) au1._auto_1) (hK:autoParam (X.K = c.r.K) au1._auto_1) :
   PS X (.Expr (.Call (.Attribute (.Name x p) "append" apos) [a] [] cpos) pos) (tS c Ex (DS.sP i fa)) :=
 (z6_ (kah_ PySem.F.plainAttrs_list PySem.F.slot_list_append PySem.F.type_list_append wr_ (yag_ hN hv hd hcd) (vj_ ha xr_ hs) hbase hfew hline hs hplain) hsw).imp fun E σ H h => by
 (refine DX.x7_3 h ?_; try clear h; rintro ρ G hs ts us ρ' o s e hf)
 unfold DS.sP at e
 cases q0:ρ[i]? with
 | none => rw [q0] at e; cases e
 | some sl =>
   rw [q0] at e
   cases sl with
   | un => cases e
   | sh d => cases e
   | ow xs =>
     (refine DX.x2_3 (s.ow i xs q0) ?_; rintro a vs h1 h2 h3)
     refine ⟨.ref a,h1,.inl ⟨rfl,vs,SqL.of h2⟩,?_⟩
     dsimp only at e
     cases q:fa ρ with
     | none => rw [q] at e; cases e
     | some p =>
       obtain ⟨ρ1,x⟩:=p
       rw [q] at e
       cases x with
       | er n => cases e; exact ⟨ρ,G,hs,ts,us,_,.er n,s,q,fun H' G' s' => hf σ H' G' s'⟩
       | ok d =>
         refine ⟨ρ,G,hs,ts,us,ρ1,.ok d,s,q,fun v H1 G1 s1 r1 => ?_⟩
         dsimp only at e
         cases q1:ρ1[i]? with
         | none => rw [q1] at e; cases e
         | some sl1 =>
           rw [q1] at e
           cases sl1 with
           | un => cases e
           | sh d => cases e
           | ow ys =>
             dsimp only at e
             split at e
             · rename_i hz
               cases e
               (refine DX.x2_4 (s1.more r1 q1 hz) ?_; rintro a' ws k1 k2 k3 k4)
               rw [h1] at k1
               cases k1
               exact ⟨a,ws,v,rfl,rfl,k2,k3,hf σ _ _ k4⟩
             · cases e
theorem d_sI {t:Expr} {A B:List Stmt} (hc:PT X t (tT c Ex fx)) (ha:PSs X A (tS c Ex f)) (hb:PSs X B (tS c Ex g)):PS X (.If t A B pos) (tS c Ex (DS.sI fx f g)):=(ubh_ hc ha hb).imp fun E σ H h => by
 (refine DX.x7_3 h ?_; try clear h; rintro ρ G hs ts us ρ' o s e hf)
 unfold DS.sI at e
 cases q:fx ρ with
 | none => rw [q] at e; cases e
 | some p =>
   obtain ⟨ρ1,x⟩:=p
   rw [q] at e
   cases x with
   | er n => cases e; exact ⟨ρ,G,hs,ts,us,_,.er n,s,q,fun H' G' s' => hf σ H' G' s'⟩
   | ok b =>
     refine ⟨ρ,G,hs,ts,us,ρ1,.ok b,s,q,fun b' H1 G1 s1 r1 => ?_⟩
     subst r1
     cases b with
     | true => rw [if_pos rfl]; exact ⟨ρ1,G1,hs,ts,us,ρ',o,s1,e,hf⟩
     | false => rw [if_neg (by simp)]; exact ⟨ρ1,G1,hs,ts,us,ρ',o,s1,e,hf⟩
theorem d_sF {tg iter:Expr} {t:Tg} {B:List Stmt} {fi:M (List D)} (hp:PassesOwn (model X.prog X.w) X.A X.env X.xe) (hi:PI X tg iter (tI c Ex fi)) (hg:PG X tg (tG c t)) (hb:PSs X B (tS c Ex f)) (hc:autoParam (X.calm = true) au1._auto_1)
   (hs:autoParam (∀ x,foldedSetIterable iter X.env x = pure x) au3._auto_1):PS X (.For tg iter B [] pos) (tS c Ex (DS.sF fi t f)):=(va8_ hp hc hi hg hb hs).imp fun E σ H h => by
 (refine DX.x7_3 h ?_; try clear h; rintro ρ G hs ts us ρ' o s e hf)
 unfold DS.sF at e
 cases q:fi ρ with
 | none => rw [q] at e; cases e
 | some p =>
   obtain ⟨ρ1,x⟩:=p
   rw [q] at e
   cases x with
   | er n => cases e; exact ⟨ρ,G,hs,ts,us,_,.er n,s,q,fun H' G' s' => hf σ H' G' s'⟩
   | ok ds =>
     refine ⟨ρ,G,hs,ts,us,ρ1,.ok ds,s,q,fun J H1 G1 d v s1 hy => ?_⟩
     refine ⟨fun i m σ2 H2 => m = ds.length - i ∧ i ≤ ds.length ∧ ∃ ρ2 G2,SR c ρ2 σ2 H2 G2 hs (d :: ts) (v :: us) ∧ DS.forL t f (ds.drop i) ρ2 = some (ρ',o),⟨ds.length,by simp,Nat.zero_le _,ρ1,G1,s1,by simpa using e⟩,?_⟩
     (rintro i m σ2 H2 zz; refine DX.x0_3 zz ?_; try clear zz; (rintro rfl hi' zz; refine DX.x2_2 zz ?_; try clear zz; rintro ρ2 G2 s2 e2))
     obtain ⟨rd,s2'⟩:=s2.pop1
     (refine DX.x0_3 (hy H2 G2 s2.sub rd) ?_; rintro hgo hstop hyl)
     by_cases hlt:i < ds.length
     · refine .inr ⟨hgo i hlt,fun σ3 H3 => i + 1 ≤ ds.length ∧ ∃ ρ3 G3,SR c ρ3 σ3 H3 G3 hs (d :: ts) (v :: us) ∧ DS.forL t f (ds.drop (i + 1)) ρ3 = some (ρ',o),fun σ' H' h' => ⟨ds.length - (i + 1),by omega,rfl,h'.1,h'.2⟩,fun x H' y => ?_⟩
       obtain ⟨rfl,e0,e3,rx⟩:=hyl i x H' hlt y
       have hdrop:ds.drop i = e0 :: ds.drop (i + 1):=by
         obtain ⟨h1,h2⟩:=List.getElem?_eq_some_iff.mp e3
         rw [← h2]; exact List.drop_eq_getElem_cons h1
       rw [hdrop] at e2
       unfold DS.forL at e2
       cases q1:DS.asg t e0 ρ2 with
       | none => rw [q1] at e2; cases e2
       | some ρa =>
         rw [q1] at e2
         refine ⟨ρ2,G2,hs,_,_,e0,ρa,s2,rx,q1,fun σ3 s3 _ => ?_⟩
         dsimp only at e2
         cases q3:f ρa with
         | none => rw [q3] at e2; cases e2
         | some p3 =>
           obtain ⟨ρ3,o3⟩:=p3
           rw [q3] at e2
           refine ⟨ρa,G2,hs,_,_,ρ3,o3,s3,q3,?_⟩
           cases o3 with
           | nx => exact fun σ' H' G' s' => ⟨hlt,ρ3,G',s',e2⟩
           | ct => exact fun σ' H' G' s' => ⟨hlt,ρ3,G',s',e2⟩
           | bk => cases e2; exact fun σ' H' G' s' => hf σ' H' G' s'.pop1.2
           | rt d => cases e2; exact fun v σ' H' G' s' => hf v σ' H' G' s'.pop1.2
           | er n => cases e2; exact fun σ' H' G' s' => hf σ' H' G' s'.pop1.2
     · have e3:i = ds.length:=by omega
       subst e3
       rw [List.drop_length] at e2
       unfold DS.forL at e2
       cases e2
       exact .inl ⟨hstop _ (Nat.le_refl _),hf σ2 H2 G2 s2'⟩
theorem d_sT {x:Str} {C:Addr} {n:String} {m:Str} {j} {np cpos spos pos:Pos} {E:XK} (hr:q9_ X E) (hE:∀ σ,Ex σ = E) (hC:ExcCls X.K X.mg x C) (hn:c.r.ad n = C) (hc:autoParam (X.calm = true) au1._auto_1) (hg:autoParam (Gl X x) au1._auto_1) (hd:autoParam ((x == ("__debug__":Str)) = false) au2._auto_1)
   (hst:autoParam (starEach [.Constant (.str m) j spos] X.env = [(false,eval (.Constant (.str m) j spos) X.env)]) au1._auto_1):PS X (.Raise (some (.Call (.Name x np) [.Constant (.str m) j spos] [] cpos)) none pos) (tS c Ex (DS.sT n)) :=
 (kaq_ hc hr hC hg wav_ hd hst).imp fun D σ H h => by
 (refine DX.x7_3 h ?_; try clear h; rintro ρ G hs ts us ρ' o s e hf)
 unfold DS.sT at e
 cases e
 have:=hf σ H G s
 rw [hE,hn] at this
 exact this
theorem SR.caught {ρ:Rho} {σ:St} {H G:Hp} {hs:List (Addr × List V)} {ts:List D} {us:List V} (s:SR c ρ σ H G hs ts us) {a:Addr} (ha:H a = none) (n:String) (i:Nat) :
   SR c (ρ.set i (.sh (.exc n))) (σ.set i (some (.ref a))) (upd H a (ExcO a (.ref (c.r.ad n)))) (upd G a (ExcO a (.ref (c.r.ad n)))) hs ts us:=by
 have ex:=Ext.lay (o:=ExcO a (.ref (c.r.ad n))) s.sub ha
 exact (s.grow ex).bind (by rw [Rep]; exact ⟨a,rfl,yb_⟩) i
theorem jal_ {x n:Str} {CM:Addr} (i:Nat) {body:List Stmt} {b₀:Stmt} {suite:List Stmt} {np hpos pos:Pos} {cls:List String} {sup:String→Bool} (hN:X.N.Nodup) (hM:X.mg x = some (.ref CM)) (hsup:∀ m,(cls.contains m && sup m) = true→PySem.W.exmOne X.K (.ref (c.r.ad m)) (.ref CM) = some true)
   (hb:∀ pins Ex',X.Ok→PSs (X.tryX pins Ex') body (tS c Ex' f)) (hs:∀ a,PSs (X.inExc a) (b₀ :: suite) (tS c noX g))
   (hi:autoParam (X.N[i]? = some n) au1._auto_1) (hn:autoParam (X.env.scope.names.lookup n = some .local) au1._auto_1) (hg:autoParam (Gl X x) au1._auto_1) (hd:autoParam ((x == ("__debug__":Str)) = false) au2._auto_1) (hf:autoParam (X.env.frame = some X.env.locals) au1._auto_1) (hst:autoParam (X.stack = X.env :: X.outer) au1._auto_1) :
   PS X (.Try body [.ExceptHandler (some (.Name x np)) (some n) (b₀ :: suite) hpos] [] [] pos) (tS c Ex (DS.sTry cls sup i f g)) :=
 (uba_ (tb:=fun Ex' => tS c Ex' f) (ts:=tS c noX g) hN hi hn hg hM hb hs hd hf hst).imp fun E σ H h => by
 (refine DX.x7_3 h ?_; try clear h; rintro ρ G hs ts us ρ' o s e hf)
 show tS c (exOf X.K CM i (tS c noX g) E) f E σ H
 unfold DS.sTry at e
 cases q:f ρ with
 | none => rw [q] at e; cases e
 | some p =>
   obtain ⟨ρ1,o1⟩:=p
   rw [q] at e
   refine ⟨ρ,G,hs,ts,us,ρ1,o1,s,q,?_⟩
   cases o1 with
   | nx => cases e; exact hf
   | rt d => cases e; exact hf
   | bk => cases e; exact hf
   | ct => cases e; exact hf
   | er m =>
     intro σ1 H1 G1 s1
     dsimp only at e
     split at e
     · rename_i hm
       refine ⟨hsup m hm,fun a ha => ?_⟩
       cases q2:g (ρ1.set i (.sh (.exc m))) with
       | none => rw [q2] at e; cases e
       | some p2 =>
         obtain ⟨ρ2,o2⟩:=p2
         rw [q2] at e
         refine ⟨_,_,hs,ts,us,ρ2,o2,s1.caught ha m i,q2,?_⟩
         cases o2 with
         | nx => cases e; exact fun σ' H' G' s' => hf _ H' G' (s'.unbind i)
         | rt d => cases e; exact fun v σ' H' G' s' r' => hf v _ H' G' (s'.unbind i) r'
         | bk => cases e; exact fun σ' H' G' s' => hf _ H' G' (s'.unbind i)
         | ct => cases e; exact fun σ' H' G' s' => hf _ H' G' (s'.unbind i)
         | er n => cases e
     · cases e
end
section
variable {P:Program} {w:World} {K:PySem.W.Frag} {mg:Str→Option Value} {base:Heap} {ad:String→Addr}
theorem kal_ {N:List Str} {vs:List V} {i:Nat} {v:V} (h:vs[i]? = some v):(xq_ N vs)[i]? = some (some v):=by
 have hi:=(List.getElem?_eq_some_iff.mp h).1
 unfold xq_
 rw [List.getElem?_append_left (by simpa using hi),List.getElem?_map,h]
 rfl
theorem SR.atStart {r:Rc} {H G:Hp} {N:List Str} {n:Nat} {ds:List D} {vs:List V} (sub:Same G H) (h:Reps r G ds vs) (hn:vs.length = n) (hN:n ≤ N.length) :
   SR ⟨r,H,G⟩ (ds.map .sh ++ List.replicate (N.length - n) .un) (xq_ N vs) H G [] [] []:=by
 have hl:=h.length
 refine ⟨Ext.refl sub,by unfold xq_; simp; omega,fun i d e => ?_,fun i es e => ?_,fun i j es fs a e1 _ _ _ => ?_,fun _ z => (by simp at z),by simp,.nil⟩
 · by_cases hi:i < ds.length
   · rw [List.getElem?_append_left (by simpa using hi),List.getElem?_map] at e
     cases q:ds[i]? with
     | none => rw [q] at e; cases e
     | some d' =>
       rw [q] at e
       cases e
       (refine DX.x1_2 (h.get q) ?_; rintro v q1 q2)
       exact ⟨v,kal_ q1,q2⟩
   · rw [List.getElem?_append_right (by simp; omega)] at e
     obtain ⟨_,z⟩:=List.getElem?_eq_some_iff.mp e
     simp at z
 · by_cases hi:i < ds.length
   · rw [List.getElem?_append_left (by simpa using hi),List.getElem?_map] at e
     cases q:ds[i]? with
     | none => rw [q] at e; cases e
     | some d' => rw [q] at e; cases e
   · rw [List.getElem?_append_right (by simp; omega)] at e
     obtain ⟨_,z⟩:=List.getElem?_eq_some_iff.mp e
     simp at z
 · by_cases hi:i < ds.length
   · rw [List.getElem?_append_left (by simpa using hi),List.getElem?_map] at e1
     cases q:ds[i]? with
     | none => rw [q] at e1; cases e1
     | some d' => rw [q] at e1; cases e1
   · rw [List.getElem?_append_right (by simp; omega)] at e1
     obtain ⟨_,z⟩:=List.getElem?_eq_some_iff.mp e1
     simp at z
noncomputable abbrev cxM (fl:Bool) (P:Program) (w:World) (K:PySem.W.Frag) (mg:Str→Option Value) (base:Heap) (N:List Str) (qual:Str) (scope:Scope) (f:Addr) (cd:Value) (A:Around) (outer:List Env) (s:Shared) (H:Hp) (E:XK):Cx :=
 cxOf (CXm P w fl) P w K mg base N qual scope f cd A outer s H E
theorem ui_ {fl:Bool} {N:List Str} {qual:Str} {scope:Scope} {f:Addr} {cd:Value} {A:Around} {outer:List Env} {s:Shared} {H:Hp} {E:XK}:PassesOwn (model (cxM fl P w K mg base N qual scope f cd A outer s H E).prog (cxM fl P w K mg base N qual scope f cd A outer s H E).w) (cxM fl P w K mg base N qual scope f cd A outer s H E).A (cxM fl P w K mg base N qual scope f cd A outer s H E).env (cxM fl P w K mg base N qual scope f cd A outer s H E).xe:=PassesOwn.leaving
theorem qa_ {fl:Bool} {N:List Str} {qual:Str} {scope:Scope} {f:Addr} {cd:Value} {A:Around} {outer:List Env} {s:Shared} {H:Hp} {E:XK}:zm_ (CXm P w fl) (cxM fl P w K mg base N qual scope f cd A outer s H E) (fun _ => E):=jad_
theorem qar_ {X:Cx} {fl:Bool}:zm_ (CXm X.prog X.w fl) X noX:=fun _ _ _ _ _ _ _ h => (CXm.E0 h).elim
theorem fn_D {fl:Bool} {x qual:Str} {st:Stmt} {f:Addr} {fd:FuncData} {N ps:List Str} {k:Nat} {b:FS} (F:Fun K x qual st f fd) (S:FnScope N ps (jb_ st)) (hN:ps.length ≤ N.length)
   (hb:∀ (c:Db) (cdv:Value) (A:Around) (outer:List Env) (s:Shared) (H:Hp) (E:XK),c.r = ⟨K,w,ad⟩→Room k (A.deeper (envOfC qual (jb_ st) s.heap.objs.size f cdv))→PSs (cxM fl P w K mg base N qual (jb_ st) f cdv A outer s H E) (jg_ st) (tS c (fun _ => E) b)) :
   FnOk P w K mg base (CXm P w fl) (k + 1) f fd ps (spD ⟨K,w,ad⟩ ps.length (DS.run ps.length N.length b)):=by
 refine F.okM S (fun vs H Q E h => h.1) fun cdv A outer s H vs Q E hr h => ?_
 obtain ⟨hl,G,ds,x,sub,rs,e,fin⟩:=h
 refine ⟨tS ⟨⟨K,w,ad⟩,H,G⟩ (fun _ => E) b,hb _ cdv A outer s H E rfl hr,?_⟩
 have hd:=rs.length
 unfold DS.run at e
 rw [if_pos (by omega)] at e
 cases q:b (ds.map .sh ++ List.replicate (N.length - ps.length) .un) with
 | none => rw [q] at e; cases e
 | some p =>
   obtain ⟨ρ',o⟩:=p
   rw [q] at e
   refine ⟨_,G,[],[],[],ρ',o,SR.atStart sub rs hl hN,q,?_⟩
   cases o with
   | nx => cases e; exact fun σ' H' G' s' => fin .non H' G' s'.ext (by rw [Rep])
   | rt d => cases e; exact fun v σ' H' G' s' r' => fin v H' G' s'.ext r'
   | er n => cases e; exact fun σ' H' G' s' => fin H' G' s'.ext
   | bk => cases e
   | ct => cases e
theorem qa4_ {ps N:Nat} {b:FS} {ds:List D} {y:R D} (h:DS.run ps N b ds = some y):ds.length = ps:=by
 unfold DS.run at h
 split at h
 · assumption
 · cases h
end
end L2
namespace L2
open PySem PySem.Spec PyProof.Rows
open DS (D Sl Rho R M FS O Tg)
section
variable {c:Db} {ρ:Rho} {σ:St} {H G:Hp} {hs hs':List (Addr × List V)} {ts:List D} {us:List V}
end
end L2
namespace L2
open PySem PySem.Spec PyProof.Rows
open DS (D Sl Rho R M FS O Tg)
theorem w3_:bootBuiltins "len" = some (.builtin "len"):=by decide +kernel
theorem zas_:bootBuiltins "all" = some (.builtin "all"):=by decide +kernel
theorem xe_:bootBuiltins "isinstance" = some (.builtin "isinstance"):=by decide +kernel
theorem j3_:bootBuiltins "ValueError" = some (.type "ValueError"):=by decide +kernel
section
variable {P:Program} {w:World} {K:PySem.W.Frag} {mg:Str→Option Value} {base:Heap} {ad:String→Addr}
structure DefOk (K:PySem.W.Frag) (mg:Str→Option Value) (x:Str) (st:Stmt) (ps:List Str):Prop where
 ex:∃ (f:Addr) (fd:FuncData),Fun K x x st f fd ∧ mg x = some (.ref f) ∧ y6_ K fd ps []
theorem CallOk.of {fl:Bool} {r:Rc} {x:Str} {st:Stmt} {ps:List Str} {k n:Nat} {F:List D→Option (R D)} (d:DefOk K mg x st ps) (h:∀ f fd,Fun K x x st f fd→FnOk P w K mg base (CXm P w fl) k f fd ps (spD r n F)) (hl:∀ ds y,F ds = some y→ds.length = n):CallOk fl P w K mg base r x k n F:=by
 (refine DX.x2_3 d.ex ?_; rintro f fd G hm hb)
 exact ⟨⟨f,fd,ps,h f fd G,hm,G.kp,hb⟩,hl⟩
theorem val_ {X:Cx} {c:Db} {Ex:St→XK} {x:Str} {i:Int} {pos:Pos} (hm:∃ t,X.mg x = some (.int i t)) (hg:autoParam (Gl X x) au1._auto_1) (hd:autoParam ((x == ("__debug__":Str)) = false) au2._auto_1):PE X (.Name x pos) (tE c Ex (DS.cst (.int i))):=by
 obtain ⟨t,h⟩:=hm
 exact xbd_ h hg hd
noncomputable def yas_ (K:PySem.W.Frag):Sp:=fun vs H Q _ => ∃ (a:Addr) (ns:List Int),vs = [.ref a] ∧ SqL K H a (ns.map V.int) ∧ ns.length ≤ 63 ∧ ∀ H',Q (.bl true) H'
theorem wbf_ {fl:Bool} {k:Nat} {f:Addr} {fd:FuncData} {ps:List Str} {F:List D→Option (R D)} (h:FnOk P w K mg base (CXm P w fl) k f fd ps (spD ⟨K,w,ad⟩ 1 F)) (ht:∀ ns:List Int,F [.lst (ns.map D.int)] = some (.ok (.bl true))):FnOk P w K mg base (CXm P w fl) k f fd ps (yas_ K) :=
 h.imp fun vs H Q E ⟨a,ns,e,hS,hl,q⟩ => by
   subst e
   have hz:(ns.map V.int).length ≤ sizeLine:=by rw [List.length_map,sizeLine_eq]; omega
   refine ⟨rfl,H,[.lst (ns.map D.int)],_,Same.refl H,.cons ?_ .nil,ht ns,fun v H' G' _ r' => ?_⟩
   · rw [Rep]
     exact ⟨a,_,rfl,hS,hz,Reps.ofInts ns⟩
   · rw [Rep] at r'
     subst r'
     exact q H'
theorem xas_ {l:PySem.W.OpenLaw} {k:Nat} {x:Str} {q:Program} {loose:List Str} {XP:(Str→Option Value)→Heap→Prop} {YP:World→Heap→Prop} {d:DefRec} {K:Params→PySem.W.Frag} (hn:l.most = some 63) (hdf:d.params.defaults = []) (hr:Room k callerA)
   (hY:∀ (w:World) (h:Heap),YP w h→(K w.params).In h)
   (F:∀ (w:World) (mg:Str→Option Value) (fa:Addr) (h:Heap),(K w.params).In h→h.Ns mainGlobals mg→mg d.name = some (.ref fa) →
     ∃ fd:FuncData,(∀ (s:Shared) (u:Value),BindsTo s fd ⟨[u],[]⟩ [(x,u)]) ∧ ∀ base:Heap,(K w.params).In base→base.Ns mainGlobals mg→FnOk l.prog w (K w.params) mg base (CXm l.prog w false) k fa fd [x] (yas_ (K w.params))) :
   PySem.W.WalkO q loose XP YP l.row.toRowW d [] (fun f vs => PySem.call f vs) :=
 L2.zai_ (n:=63) (k:=k) (x:=x) (CX:=fun w => CXm l.prog w false) (sp:=fun w => yas_ (K w.params)) hn (by decide) hdf hr hY F (fun _ _ a ns hl _ hS => ⟨a,ns,rfl,hS,hl,fun _ => rfl⟩) fun _ _ _ _ _ z => CXm.E0 z
end
theorem mt1 {α:Type} {P:List α→Prop} (h:∀ a,P [a]):∀ us:List α,us.length = 1→P us
 | [a],_ => h a
theorem mt2 {α:Type} {P:List α→Prop} (h:∀ a b,P [a,b]):∀ us:List α,us.length = 2→P us
 | [a,b],_ => h a b
theorem mt3 {α:Type} {P:List α→Prop} (h:∀ a b c,P [a,b,c]):∀ us:List α,us.length = 3→P us
 | [a,b,c],_ => h a b c
end L2
set_option maxHeartbeats 8000000
namespace SetPure
open PySem PySem.Spec
section
variable {prog:Program} {w:World} {A:Around} {E:Value→Shared→Prop} {s:Shared}
end
end SetPure
namespace L2
open PySem PySem.Spec PyProof.Rows
open DS (D Sl Rho R M FS O Tg)
section
variable {P:Program} {w:World} {K:PySem.W.Frag} {mg:Str→Option Value} {base:Heap} {r:Rc}
end
section
variable {X:Cx} {c:Db} {Ex:St→XK} {a b:Expr} {rest:List Expr} {pos:Pos} {fa fb:M D} {fs:M (List D)} {ta tb:TE}
end
section
variable {P:Program} {w:World} {K:PySem.W.Frag} {mg:Str→Option Value} {base:Heap} {ad:String→Addr}
theorem FnScope.q {N ps:List Str} {sc:Scope} (h:FnScope N ps sc:=by exact ⟨rfl,rfl,rfl,by decide +kernel,rfl,by decide +kernel,by decide +kernel⟩):FnScope N ps sc:=h
theorem CallOk.D {fl:Bool} {x:Str} {st:Stmt} {N ps:List Str} {k:Nat} {b:FS} (d:DefOk K mg x st ps) (S:FnScope N ps (jb_ st)) (hN:ps.length ≤ N.length)
   (hb:∀ (H0 G0:Hp) (f:Addr) (cdv:Value) (A:Around) (outer:List Env) (s:Shared) (H:Hp) (E:XK) (hr:Room k (A.deeper (envOfC x (jb_ st) s.heap.objs.size f cdv))),(A.deeper (envOfC x (jb_ st) s.heap.objs.size f cdv)).units + 64 < cLine→(A.deeper (envOfC x (jb_ st) s.heap.objs.size f cdv)).units < cLine→N.Nodup→PSs (cxM fl P w K mg base N x (jb_ st) f cdv A outer s H E) (jg_ st) (tS ⟨⟨K,w,ad⟩,H0,G0⟩ (fun _ => E) b)) :
   CallOk fl P w K mg base ⟨K,w,ad⟩ x (k + 1) ps.length (DS.run ps.length N.length b) :=
 .of d (fun f fd F => fn_D F S hN (by
   rintro ⟨_,H0,G0⟩ cdv A outer s H E rfl hr
   exact hb H0 G0 f cdv A outer s H E hr hr.units hr.units0 S.nd)) fun _ _ h => qa4_ h
end
end L2
set_option maxHeartbeats 8000000
namespace L2
open PySem PySem.Spec PyProof.Rows
open DS (D Sl Rho R M FS O Tg)
section
variable {X:Cx} {r:Rc}
end
section
variable {c:Db} {ρ:Rho} {σ:St} {H G:Hp} {hs:List (Addr × List V)} {ts:List D} {us:List V}
theorem SR.extd (s:SR c ρ σ H G hs ts us) {es:List D} {ws:List V} (h:Reps c.r G es ws) {i:Nat} {ds:List D} (ho:ρ[i]? = some (.ow ds)) (hz:ds.length + es.length ≤ sizeLine) :
   ∃ a vs,σ[i]? = some (some (.ref a)) ∧ H a = some (.lst vs) ∧ vs.length + ws.length ≤ sizeLine ∧ SR c (ρ.set i (.ow (ds ++ es))) σ (upd H a (.lst (vs ++ ws))) G hs ts us:=by
 (refine DX.x2_7 (s.ow i ds ho) ?_; rintro a vs h1 h2 h3 h4 h5 h6 h7)
 have hl:=h6.length
 have hl2:=h.length
 have oth:∀ b o,b ≠ a→H b = some o→upd H a (.lst (vs ++ ws)) b = some o:=fun b o n e => by rw [zb_ n]; exact e
 refine ⟨a,vs,h1,h2,by omega,⟨⟨fun b o e => oth b o (wb_ e h4) (s.ext.same b o e),s.ext.view,fun b o e => oth b o (wb_ e h3) (s.ext.sub b o e),s.ext.new⟩,by simpa using s.ln,fun j e q => ?_,fun j es q => ?_,fun j k es fs b e1 e2 e3 e4 => ?_,fun q hq => ?_,s.nd,s.tu⟩⟩
 · rcases kb_ q with ⟨_,z⟩ | ⟨ne,z⟩
   · cases z
   · exact s.sh j e z
 · rcases kb_ q with ⟨rfl,z⟩ | ⟨ne,z⟩
   · cases z
     exact ⟨a,vs ++ ws,h1,yb_,h3,h4,by simp; omega,h6.append h,h7⟩
   · (refine DX.x2_3 (s.ow j es z) ?_; rintro b ws q1 q2 q3)
     have hb:b ≠ a:=fun q => ne (s.inj j i es ds a z ho (by rw [← q]; exact q1) h1)
     exact ⟨b,ws,q1,oth b _ hb q2,q3⟩
 · have w1:∃ x,ρ[j]? = some (.ow x):=by
     rcases kb_ e1 with ⟨j1,_⟩ | ⟨_,z1⟩
     · exact ⟨ds,by rw [j1]; exact ho⟩
     · exact ⟨es,z1⟩
   have w2:∃ x,ρ[k]? = some (.ow x):=by
     rcases kb_ e2 with ⟨j1,_⟩ | ⟨_,z1⟩
     · exact ⟨ds,by rw [j1]; exact ho⟩
     · exact ⟨fs,z1⟩
   obtain ⟨x1,z1⟩:=w1
   obtain ⟨x2,z2⟩:=w2
   exact s.inj j k x1 x2 b z1 z2 e3 e4
 · (refine DX.x0_3 (s.hd q hq) ?_; rintro q1 q2 q3)
   exact ⟨oth _ _ (h7 q hq) q1,q2,q3⟩
end
section
variable {X:Cx} {c:Db} {Ex:St→XK} {pos:Pos}
end
end L2
namespace L2
open PySem PySem.Spec PyProof.Rows
open DS (D Sl Rho R M FS O Tg)
section
variable {X:Cx} {r:Rc} {c:Db} {Ex:St→XK} {a b:Expr} {pos apos:Pos} {fa fb:M D}
theorem yh_:DS.lim ≤ sizeLine:=by decide
theorem xbm_:OpR X (compareOp .In) (rD r DS.inS):=by
 intro pins s σ H x y v u Q I rx ry ⟨G,dx,dy,d,sub,hx,hy,e,q⟩
 obtain ⟨z1,e1,f1⟩:=Option.bind_eq_some_iff.mp e
 clear e
 obtain ⟨z2,e2,rfl⟩:=Option.map_eq_some_iff.mp f1
 cases DS.zd_ e1
 cases DS.zd_ e2
 rw [Rep] at hx; rw [Rep] at hy
 exact qag_ pins s σ H x y v u Q I rx ry ⟨z1,z2,hx,hy,q _ H G (Ext.refl sub) (by rw [Rep]; rfl)⟩
theorem wbm_:IxR X (rD r DS.ixS):=by
 intro value slice pins s σ H x y v u Q I rx ry ⟨G,dx,dy,d,sub,hx,hy,e,q⟩ hs
 obtain ⟨z,e1,f1⟩:=Option.bind_eq_some_iff.mp e
 clear e
 obtain ⟨j,e2,f2⟩:=Option.bind_eq_some_iff.mp f1
 clear f1
 cases DS.zd_ e1
 cases DS.ya1_ e2
 rw [Rep] at hx; rw [Rep] at hy
 split at f2
 · rename_i hz
   obtain ⟨k,e3,rfl⟩:=Option.map_eq_some_iff.mp f2
   exact wba_ value slice pins s σ H x y v u Q I rx ry ⟨z,j,k,hx,hy,Nat.le_trans hz yh_,e3,q _ H G (Ext.refl sub) (by rw [Rep])⟩ hs
 · cases f2
theorem ual_:wo_ X (.builtin "len") (rDL r DS.lenS):=by
 intro pins s σ H xs us Q I rs ⟨G,ds,d,sub,hx,e,q⟩
 obtain ⟨d1,e1,f1⟩:=Option.bind_eq_some_iff.mp e
 clear e
 obtain ⟨z,e2,f2⟩:=Option.bind_eq_some_iff.mp f1
 clear f1
 cases DS.w7_ e1
 cases DS.zd_ e2
 obtain ⟨v,t,rfl,hv,ht⟩:=hx.cons_inv
 cases ht.nil_inv
 rw [Rep] at hv
 subst hv
 split at f2
 · rename_i hz
   cases f2
   exact x1_ pins s σ H _ us Q I rs ⟨z,rfl,Nat.le_trans hz yh_,q _ H G (Ext.refl sub) (by rw [Rep])⟩
 · cases f2
theorem ks_ {i:Int} (h:DS.jv_ i = true):i.natAbs.log2 < 1920:=by
 have h2:=DS.zk_.mp h
 have h3:i.natAbs < 2 ^ 62:=by omega
 rcases Nat.eq_zero_or_pos i.natAbs with z | z
 · rw [z]; decide
 · have:=(Nat.log2_lt (by omega)).mpr h3
   omega
theorem k3_:wo_ X (.type "str") (rDL r DS.strF):=by
 intro pins s σ H xs us Q I rs ⟨G,ds,d,sub,hx,e,q⟩
 obtain ⟨d1,e1,f1⟩:=Option.bind_eq_some_iff.mp e
 clear e
 cases DS.w7_ e1
 obtain ⟨v,t,rfl,hv,ht⟩:=hx.cons_inv
 cases ht.nil_inv
 cases d1 with
 | int i =>
   rw [Rep] at hv
   subst hv
   delta DS.strD at f1; dsimp only at f1
   split at f1
   · rename_i hz
     cases f1
     exact k0_ pins s σ H _ us Q I rs ⟨i,rfl,ks_ hz,q _ H G (Ext.refl sub) (by rw [Rep]; rfl)⟩
   · cases f1
 | _ => cases f1
theorem was_ {x:Str} (h:DS.wl_ x = true):intText? x = some (DS.digV x):=by
 unfold DS.wl_ at h
 rw [Bool.and_eq_true,Bool.and_eq_true,decide_eq_true_eq,decide_eq_true_eq] at h
 obtain ⟨⟨h1,h2⟩,h3⟩:=h
 have hl:x.cps.toList.length = x.length:=by simp [Str.length]
 rw [List.all_eq_true] at h3
 have hd:NumText.AllDigits x.cps.toList:=fun c hc => by simpa using h3 c hc
 rw [intText_digits hd (fun z => by rw [z] at hl; simp at hl; omega) (by omega)]
 congr 1
 unfold DS.digV
 generalize x.cps.toList = l at hl hd
 match l,hl,hd with
 | [],hl,_ => simp at hl; omega
 | [c],_,hd =>
   have:=hd c (by simp)
   simp [NumText.digitsVal]
   omega
 | [c,c'],_,hd =>
   have:=hd c (by simp)
   have:=hd c' (by simp)
   simp [NumText.digitsVal]
   omega
 | _ :: _ :: _ :: _,hl,_ => simp at hl; omega
theorem uaa_:wo_ X (.type "int") (rDL r DS.intF):=by
 intro pins s σ H xs us Q I rs ⟨G,ds,d,sub,hx,e,q⟩
 obtain ⟨d1,e1,f1⟩:=Option.bind_eq_some_iff.mp e
 clear e
 obtain ⟨z,e2,f2⟩:=Option.bind_eq_some_iff.mp f1
 clear f1
 cases DS.w7_ e1
 cases DS.zd_ e2
 obtain ⟨v,t,rfl,hv,ht⟩:=hx.cons_inv
 cases ht.nil_inv
 rw [Rep] at hv
 subst hv
 split at f2
 · rename_i hz
   cases f2
   obtain ⟨u,rfl,t,rfl⟩:=yq_ rs
   have hl:z.length ≤ 2:=by
     unfold DS.wl_ at hz
     rw [Bool.and_eq_true,Bool.and_eq_true,decide_eq_true_eq,decide_eq_true_eq] at hz
     exact hz.1.2
   exact PySem.W.KIN.call_text (was_ hz) (by omega) ⟨.int _,H,I.tok _,⟨_,rfl⟩,q _ H G (Ext.refl sub) (by rw [Rep])⟩
 · cases f2
theorem jbm_:SlR X (rDS r DS.slS):=by
 intro pins s σ H x v vl vu lo hi sl Q I rx hs pl pu ⟨G,dx,d,sub,hx,e,q⟩
 obtain ⟨z,e1,f1⟩:=Option.bind_eq_some_iff.mp e
 clear e
 cases DS.zd_ e1
 rw [Rep] at hx
 subst hx
 obtain ⟨t,rfl⟩:=rx
 split at f1
 · rename_i hz
   cases f1
   have fits:(Txt.slice z lo hi).length ≤ sizeLine:=Nat.le_trans (Txt.slice_le z _ _) (Nat.le_trans hz yh_)
   have fin:∀ t' k,EP X pins σ Q (.str (Txt.slice z lo hi) t') { s with toks:=k }:=fun t' k => ⟨.str _,H,I.tok k,⟨t',rfl⟩,q _ H G (Ext.refl sub) (by rw [Rep])⟩
   refine ⟨"str",_,F.slot_str_getitem.lookup,typeIs_str _ _ _,?_⟩
   cases pl with
   | none =>
     cases pu with
     | none => exact wpAny_getItem_str_slice (l:=none) (u:=none) (st:=none) hs rfl (post_val_or_str ⟨fits,fin⟩)
     | int j tj => exact wpAny_getItem_str_slice (l:=none) (u:=some (j,tj)) (st:=none) hs rfl (post_val_or_str ⟨fits,fin⟩)
   | int i ti =>
     cases pu with
     | none => exact wpAny_getItem_str_slice (l:=some (i,ti)) (u:=none) (st:=none) hs rfl (post_val_or_str ⟨fits,fin⟩)
     | int j tj => exact wpAny_getItem_str_slice (l:=some (i,ti)) (u:=some (j,tj)) (st:=none) hs rfl (post_val_or_str ⟨fits,fin⟩)
 · cases f1
theorem ul_ {lo hi:Option Expr} {p2:Pos} {fl fh:Option (M D)} (he:PE X a (tE c Ex fa)) (hl:PO X lo (tP c Ex (DS.part fl))) (hu:PO X hi (tP c Ex (DS.part fh))) :
   PE X (.Subscript a (.Slice lo hi none p2) pos) (tE c Ex (DS.slSE fa fl fh)):=(j9_ jbm_ he hl hu).imp fun σ H Q h => by
 obtain ⟨ρ,G,hs,ts,us,ρ',r,s,e,hf⟩:=h
 refine xb_ s e hf fun ρ1 x v H1 G1 e1 s1 r1 => ?_
 refine xb_ (s1.push r1) e1 hf.push fun ρ2 l l' H2 G2 e2 s2 r2 => ?_
 subst r2
 refine xb_ s2 e2 hf.push fun ρ3 h h' H3 G3 e3 s3 r3 => ?_
 subst r3
 obtain ⟨d,e4,rfl,rfl⟩:=ub_ e3
 obtain ⟨r1',s3'⟩:=s3.pop1
 exact ⟨G3,x,d,s3'.sub,r1',e4,fun v' H' G' ex rp => hf v' H' G' (s3'.grow ex) rp⟩
end
end L2
namespace L2
open PySem PySem.Spec PyProof.Rows
open DS (D Sl Rho R M FS O Tg)
section
variable {X:Cx} {r:Rc} {c:Db} {Ex:St→XK} {a b:Expr} {pos apos:Pos} {fa fb:M D}
theorem za5_ {g:D→D→Option D} {σ:St} {H:Hp} {Q:VK} {K:PySem.W.Frag} (h:tE c Ex (DS.opS g fa fb) σ H Q):tBM K "str" (rM c.r g) (tE c Ex fa) (zah_ (tE c Ex fb) tNil) σ H Q:=by
 obtain ⟨ρ,G,hs,ts,us,ρ',x,s,e,hf⟩:=h
 refine xb_ s e hf fun ρ1 dx v H1 G1 e1 s1 r1 => ?_
 unfold DS.bnd at e1
 cases dx with
 | str z =>
   have e2:DS.bnd fb (fun y => DS.lft (g (.str z) y)) ρ1 = some (ρ',x):=e1
   have r1':=r1
   rw [Rep] at r1'
   subst r1'
   refine ⟨rfl,?_⟩
   refine xb_ (s1.push r1) e2 hf.push fun ρ2 y u H2 G2 e2 s2 r2 => ?_
   obtain ⟨d,e3,rfl,rfl⟩:=ub_ e2
   obtain ⟨r1',s2'⟩:=s2.pop1
   exact ⟨u,rfl,G2,_,y,d,s2'.sub,r1',r2,e3,fun v' H' G' ex rp => hf v' H' G' (s2'.grow ex) rp⟩
 | _ => cases e1
theorem kbm_:MtR X "str.startswith" (rM r DS.swD):=by
 intro pins s σ H x xs v us Q I rx rs ⟨y,exs,G,dx,dy,d,sub,hx,hy,e,q⟩
 subst exs
 obtain ⟨u,rfl,ry⟩:=yq_ rs
 obtain ⟨z1,e1,f1⟩:=Option.bind_eq_some_iff.mp e
 obtain ⟨z2,e2,rfl⟩:=Option.map_eq_some_iff.mp f1
 cases DS.zd_ e1
 cases DS.zd_ e2
 rw [Rep] at hx hy
 subst hx hy
 obtain ⟨t,rfl⟩:=rx
 obtain ⟨t',rfl⟩:=ry
 exact SC.startswith ⟨.bl _,H,I,rfl,q _ H G (Ext.refl sub) (by rw [Rep])⟩
theorem vbm_:MtR X "str.endswith" (rM r DS.ewD):=by
 intro pins s σ H x xs v us Q I rx rs ⟨y,exs,G,dx,dy,d,sub,hx,hy,e,q⟩
 subst exs
 obtain ⟨u,rfl,ry⟩:=yq_ rs
 obtain ⟨z1,e1,f1⟩:=Option.bind_eq_some_iff.mp e
 obtain ⟨z2,e2,rfl⟩:=Option.map_eq_some_iff.mp f1
 cases DS.zd_ e1
 cases DS.zd_ e2
 rw [Rep] at hx hy
 subst hx hy
 obtain ⟨t,rfl⟩:=rx
 obtain ⟨t',rfl⟩:=ry
 exact SC.endswith ⟨.bl _,H,I,rfl,q _ H G (Ext.refl sub) (by rw [Rep])⟩
theorem jbf_:MtR X "str.count" (rM r DS.cntS):=by
 intro pins s σ H x xs v us Q I rx rs ⟨y,exs,G,dx,dy,d,sub,hx,hy,e,q⟩
 subst exs
 obtain ⟨u,rfl,ry⟩:=yq_ rs
 obtain ⟨z1,e1,f1⟩:=Option.bind_eq_some_iff.mp e
 obtain ⟨z2,e2,f2⟩:=Option.bind_eq_some_iff.mp f1
 cases DS.zd_ e1
 cases DS.zd_ e2
 rw [Rep] at hx hy
 subst hx hy
 obtain ⟨t,rfl⟩:=rx
 obtain ⟨t',rfl⟩:=ry
 clear e f1
 split at f2
 · cases f2
   exact SC.count ⟨.int _,H,I.tok _,⟨_,rfl⟩,q _ H G (Ext.refl sub) (by rw [Rep])⟩
 · cases f2
theorem v3_:∀ {l:List (Str × Tok)},Vals ((l.map (·.1)).map V.str) (strValues l)
 | [] => .nil
 | p :: l => .cons ⟨p.2,rfl⟩ v3_
theorem Reps.ofStrs {G:Hp}:∀ (ys:List Str),Reps r G (ys.map D.str) (ys.map V.str)
 | [] => .nil
 | y :: ys => .cons (by rw [Rep]) (Reps.ofStrs ys)
theorem qi_:MtR X "str.split" (rM r DS.jj_):=by
 intro pins s σ H x xs v us Q I rx rs ⟨y,exs,G,dx,dy,d,sub,hx,hy,e,q⟩
 subst exs
 obtain ⟨u,rfl,ry⟩:=yq_ rs
 obtain ⟨z1,e1,f1⟩:=Option.bind_eq_some_iff.mp e
 obtain ⟨z2,e2,f2⟩:=Option.bind_eq_some_iff.mp f1
 cases DS.zd_ e1
 cases DS.zd_ e2
 rw [Rep] at hx hy
 subst hx hy
 obtain ⟨t,rfl⟩:=rx
 obtain ⟨t',rfl⟩:=ry
 clear e f1
 split at f2
 · rename_i hc
   cases f2
   rw [Bool.and_eq_true,decide_eq_true_eq,decide_eq_true_eq] at hc
   have hl:z1.length ≤ sizeLine:=Nat.le_trans hc.2 yh_
   have hw:=split_weight z1 z2 (by omega)
   have h100:DS.lim + 1 ≤ sizeLine:=by decide
   have hy:(z2.length == 0) = false:=by simp; omega
   have fin:∀ (its:List Value) (tk:Nat),Vals ((Txt.split z1 z2).map V.str) its→EP X pins σ Q (.ref s.heap.objs.size) { s with heap:=s.heap.push { cls:=.type "list",data:=.seq its.toArray },toks:=tk }:=fun its tk hv => by
     have ex:=Ext.lay (o:=.lst ((Txt.split z1 z2).map V.str)) sub I.fresh
     refine ⟨.ref _,_,I.lnew (t':=tk) hv (by simp; omega),rfl,q _ _ _ ex ?_⟩
     rw [Rep]
     exact ⟨_,_,rfl,SqL.of yb_,by simp; omega,Reps.ofStrs _⟩
   cases h1:(decide (z1.length < z2.length) || decide (Builtin.Str.strKind z1 < Builtin.Str.strKind z2))
   · cases hf:(Builtin.Str.occurrences z1 z2 0 z1.length (z1.length + 1)).isEmpty
     · have es:Txt.split z1 z2 = Builtin.Str.partsBetween z1 (Builtin.Str.occurrences z1 z2 0 z1.length (z1.length + 1)) z2.length:=by
         unfold Txt.split
         rw [if_neg (by rw [h1]; simp),if_neg (by rw [hf]; simp)]
       refine call_meets F.slot_str_split (typeIs_str _ _ _) F.entry_str_split (F.args_str_split_2 _ _) (meets_str_split_sep z1 z2 t t' h1 hy hf hl (by rw [← es]; omega)) ?_
       refine fin _ _ ?_
       rw [strsFrom_eq,es]
       have:=v3_ (l:=numbered s.toks (Builtin.Str.partsBetween z1 (Builtin.Str.occurrences z1 z2 0 z1.length (z1.length + 1)) z2.length))
       rw [numbered_texts] at this
       exact this
     · have es:Txt.split z1 z2 = [z1]:=by
         unfold Txt.split
         rw [if_neg (by rw [h1]; simp),if_pos hf]
       refine call_meets F.slot_str_split (typeIs_str _ _ _) F.entry_str_split (F.args_str_split_2 _ _) (meets_str_split_not_found z1 z2 t t' h1 hy hf) (fin _ _ ?_)
       rw [es]
       exact .cons ⟨t,rfl⟩ .nil
   · have es:Txt.split z1 z2 = [z1]:=by
       unfold Txt.split
       rw [if_pos h1]
     refine call_meets F.slot_str_split (typeIs_str _ _ _) F.entry_str_split (F.args_str_split_2 _ _) (meets_str_split_cannot_occur z1 z2 t t' h1) (fin _ _ ?_)
     rw [es]
     exact .cons ⟨t,rfl⟩ .nil
 · cases f2
theorem Reps.strs {G:Hp}:∀ {ds:List D} {vs:List V} {ys:List Str},Reps r G ds vs→DS.strz ds = some ys→vs = ys.map V.str
 | [],_,_,h,e => by rw [h.nil_inv]; cases e; rfl
 | d :: ds,_,ys,h,e => by
   obtain ⟨v,t,rfl,q,z⟩:=h.cons_inv
   obtain ⟨x,e1,f1⟩:=Option.bind_eq_some_iff.mp e
   obtain ⟨zs,e2,rfl⟩:=Option.map_eq_some_iff.mp f1
   cases DS.zd_ e1
   rw [Rep] at q
   rw [q,Reps.strs z e2]
   rfl
theorem u3_:∀ {ys:List Str} {us:List Value},Vals (ys.map V.str) us→∃ l:List (Str × Tok),l.map (·.1) = ys ∧ us = strValues l
 | [],_,h => by cases h; exact ⟨[],rfl,rfl⟩
 | y :: ys,_,h => by
   cases h with
   | cons q z =>
     obtain ⟨t,rfl⟩:=q
     obtain ⟨l,e1,rfl⟩:=u3_ z
     exact ⟨(y,t) :: l,by rw [List.map_cons,e1],rfl⟩
theorem vs_ (hK:autoParam (X.K = r.K) au1._auto_1):MtR X "str.join" (rM r DS.q1_):=by
 intro pins s σ H x xs v us Q I rx rs ⟨y,exs,G,dx,dy,d,sub,hx,hy,e,q⟩
 subst exs
 obtain ⟨u,rfl,ry⟩:=yq_ rs
 obtain ⟨z1,e1,f1⟩:=Option.bind_eq_some_iff.mp e
 obtain ⟨ds,e2,f2⟩:=Option.bind_eq_some_iff.mp f1
 obtain ⟨ys,e3,f3⟩:=Option.bind_eq_some_iff.mp f2
 cases DS.zd_ e1
 cases DS.xa1_ e2
 clear e f1 f2
 rw [Rep] at hx
 subst hx
 rw [Rep] at hy
 obtain ⟨a,vs,rfl,qa,la,ta⟩:=hy
 obtain ⟨t,rfl⟩:=rx
 cases ry
 have ev:=ta.strs e3
 subst ev
 obtain ⟨its,r1,p1,_⟩:=I.list (xs:=ys.map V.str) (by rw [hK]; exact sub.seq qa)
 obtain ⟨l,el,rfl⟩:=u3_ r1
 split at f3
 · rename_i hz
   cases f3
   refine SC.join (l:=l) (texts:=ys) p1.isList el ?_ fun t' k => ⟨.str _,H,I.tok k,⟨t',rfl⟩,q _ H G (Ext.refl sub) ?_⟩
   · unfold JoinOk
     rw [StrLaws.joinTotal]
     have:DS.lim ≤ sizeLine:=yh_
     rw [Bool.not_eq_true']
     exact decide_eq_false (by omega)
   · rw [Rep]
     show V.str (Builtin.Str.glued z1 ys) = _
     rw [StrLaws.glued_eq_join]
 · cases f3
theorem wm_ {name:Str} {id:String} {g:D→D→Option D} (slot:Slot "str" name id) (hty:typeOf (.builtin id) = pure (.type "method_descriptor")) (hm:MtR X id (rM c.r g)) (ha:PE X a (tE c Ex fa)) (hb:PE X b (tE c Ex fb))
   (hbase:autoParam (attributeBase a name X.env (eval a X.env) = eval a X.env) au1._auto_1)
   (hfew:((backTo pos (starEach [b] X.env)).all (fun x => !x.1) && (backToKw pos (keywordEach [] X.env)).all (fun x => x.1.isSome)
     && decide ([b].length + ([]:List Keyword).length + (if ([]:List Keyword).isEmpty then 0 else 1) < 30)) = true:=by rfl)
   (hline:autoParam ((apos.endLine == pos.line) = true) au1._auto_1) (hs:autoParam (starEach [b] X.env = (false,eval b X.env) :: starEach [] X.env) au1._auto_1) (hplain:autoParam ((backTo pos (starEach [] X.env)).any (·.1) = false) au1._auto_1) :
   PE X (.Call (.Attribute a name apos) [b] [] pos) (tE c Ex (DS.opS g fa fb)) :=
 (kah_ PySem.F.plainAttrs_str slot hty hm ha (vj_ hb xr_ hs) hbase hfew hline hs hplain).imp fun _ _ _ h => za5_ h
end
end L2
namespace L2
open PySem PySem.Spec PyProof.Rows
open DS (D Sl Rho R M FS O Tg)
section
variable {X:Cx} {r:Rc} {c:Db} {Ex:St→XK} {a b:Expr} {pos apos:Pos} {fa fb:M D}
theorem z8_ {x:Str} {z:Str} (hm:∃ t,X.mg x = some (.str z t)) (hg:autoParam (Gl X x) au1._auto_1) (hd:autoParam ((x == ("__debug__":Str)) = false) au2._auto_1):PE X (.Name x pos) (tE c Ex (DS.cst (.str z))):=by
 obtain ⟨t,h⟩:=hm
 exact zae_ (v:=.str z) (q5_ hg h ⟨t,rfl⟩ hd) fun G => by rw [Rep]
theorem kbf_ {te:TE} (ha:PE X a te):PE X (.FormattedValue a (-1) none pos) (fun σ H Q => te σ H fun x H1 => (∃ i,x = .int i ∧ i.natAbs.log2 < 1920 ∧ Q (.str (DS.intS i)) H1) ∨ (∃ z,x = .str z ∧ z.length ≤ sizeLine ∧ Q (.str z) H1)):=by
 intro pins s σ H Q I h
 refine FormattedValue_plain (thn (ha pins s σ H _ I h) fun v s1 ⟨x,H1,I1,r1,q1⟩ => ?_)
 rcases q1 with ⟨i,rfl,hz,q⟩ | ⟨z,rfl,hz,q⟩
 · obtain ⟨t,rfl⟩:=r1
   exact formatField_int_small hz ⟨.str _,H1,I1.tok _,⟨_,rfl⟩,q⟩
 · obtain ⟨t,rfl⟩:=r1
   exact formatField_str (fun t' tk => ⟨.str z,H1,I1.tok tk,⟨t',rfl⟩,q⟩) hz
theorem jas_ (ha:PE X a (tE c Ex fa)):PE X (.FormattedValue a (-1) none pos) (tE c Ex (DS.op1 DS.fmtD fa)):=(kbf_ ha).imp fun σ H Q h => by
 obtain ⟨ρ,G,hs,ts,us,ρ',r,s,e,hf⟩:=h
 refine xb_ s e hf fun ρ1 x v H1 G1 e1 s1 r1 => ?_
 obtain ⟨d,e3,rfl,rfl⟩:=ub_ e1
 cases x with
 | int i =>
   rw [Rep] at r1
   delta DS.fmtD at e3; dsimp only at e3
   split at e3
   · rename_i hz
     cases e3
     exact .inl ⟨i,r1,ks_ hz,hf _ H1 G1 s1 (by rw [Rep])⟩
   · cases e3
 | str z =>
   rw [Rep] at r1
   delta DS.fmtD at e3; dsimp only at e3
   split at e3
   · rename_i hz
     cases e3
     exact .inr ⟨z,r1,Nat.le_trans hz yh_,hf _ H1 G1 s1 (by rw [Rep])⟩
   · cases e3
 | _ => cases e3
theorem vbf_ {ta tb:TE} (ha:PE X a ta) (hb:PE X b tb):PE X (.JoinedStr [a,b] pos) (fun σ H Q => ta σ H fun x H1 => ∃ z1,x = .str z1 ∧ z1.length ≤ sizeLine ∧ tb σ H1 fun y H2 => ∃ z2,y = .str z2 ∧ z1.length + z2.length ≤ sizeLine ∧ Q (.str ((Str.empty ++ z1) ++ z2)) H2):=by
 intro pins s σ H Q I h
 have el:(Str.empty).length = 0:=rfl
 refine JoinedStr_many (joinParts_cons (thn (ha pins s σ H _ I h) fun v s1 ⟨x,H1,I1,r1,z1,e1,hz1,q1⟩ => ?_))
 subst e1
 obtain ⟨t,rfl⟩:=r1
 refine ⟨by rw [Str.length_append]; omega,joinParts_cons (thn (hb pins s1 σ H1 _ I1 q1) fun v s2 ⟨y,H2,I2,r2,z2,e2,hz2,q2⟩ => ?_)⟩
 subst e2
 obtain ⟨t',rfl⟩:=r2
 have hz:((Str.empty ++ z1) ++ z2).length ≤ sizeLine:=by rw [Str.length_append,Str.length_append]; omega
 exact ⟨hz,joinParts_nil ⟨.str _,H2,I2.tok _,⟨_,rfl⟩,q2⟩ hz⟩
noncomputable def BndS (f:M D):Prop:=∀ ρ ρ' d,f ρ = some (ρ',.ok d)→∃ z,d = .str z ∧ z.length ≤ sizeLine
theorem ya5_ {z:Str} (h:autoParam (z.length ≤ sizeLine) au2._auto_1):BndS (DS.cst (.str z)):=fun ρ ρ' z' e => by
 obtain ⟨_,e⟩:=xf_ e
 cases e
 exact ⟨z,rfl,h⟩
theorem qal_:BndS (DS.op1 DS.fmtD fa):=fun ρ ρ' z e => by
 unfold DS.op1 DS.bnd at e
 cases q:fa ρ with
 | none => rw [q] at e; cases e
 | some p =>
   obtain ⟨ρ1,x⟩:=p
   rw [q] at e
   cases x with
   | er n => cases e
   | ok d =>
     obtain ⟨d',e3,rfl,e4⟩:=ub_ e
     cases e4
     cases d with
     | int i =>
       delta DS.fmtD at e3; dsimp only at e3
       split at e3
       · rename_i hz; cases e3; exact ⟨_,rfl,int_text_fits (ks_ hz)⟩
       · cases e3
     | str y =>
       delta DS.fmtD at e3; dsimp only at e3
       split at e3
       · rename_i hz; cases e3; exact ⟨_,rfl,Nat.le_trans hz yh_⟩
       · cases e3
     | _ => cases e3
theorem xa5_ (hz:BndS fa) (ha:PE X a (tE c Ex fa)) (hb:PE X b (tE c Ex fb)):PE X (.JoinedStr [a,b] pos) (tE c Ex (DS.fsE (DS.ya_ fa (DS.ya_ fb DS.nilA)))):=(vbf_ ha hb).imp fun σ H Q h => by
 obtain ⟨ρ,G,hs,ts,us,ρ',r,s,e,hf⟩:=h
 unfold DS.fsE DS.ya_ DS.bnd at e
 cases q:fa ρ with
 | none => rw [q] at e; cases e
 | some p =>
   obtain ⟨ρ1,x⟩:=p
   rw [q] at e
   cases x with
   | er n => cases e; exact ⟨ρ,G,hs,ts,us,_,.er n,s,q,hf⟩
   | ok d1 =>
     refine ⟨ρ,G,hs,ts,us,ρ1,.ok d1,s,q,fun v H1 G1 s1 r1 => ?_⟩
     dsimp only at e
     cases q2:fb ρ1 with
     | none => rw [q2] at e; cases e
     | some p2 =>
       obtain ⟨ρ2,x2⟩:=p2
       rw [q2] at e
       obtain ⟨z1,rfl,hz1⟩:=hz _ _ _ q
       have r1':=r1
       rw [Rep] at r1'
       subst r1'
       refine ⟨z1,rfl,hz1,?_⟩
       cases x2 with
       | er n => cases e; exact ⟨ρ1,G1,hs,ts,us,_,.er n,s1,q2,hf⟩
       | ok d2 =>
         refine ⟨ρ1,G1,hs,ts,us,ρ2,.ok d2,s1,q2,fun v2 H2 G2 s2 r2 => ?_⟩
         have e':DS.lft ((DS.strz [.str z1,d2]).bind fun ys => if (ys.map (·.length)).sum ≤ DS.lim then some (D.str (ys.foldl (· ++ ·) Str.empty)) else none) ρ2 = some (ρ',r):=e
         obtain ⟨d3,e3,rfl,rfl⟩:=ub_ e'
         cases d2 with
         | str z2 =>
           have e4:(if ([z1,z2].map (·.length)).sum ≤ DS.lim then some (D.str ([z1,z2].foldl (· ++ ·) Str.empty)) else none) = some d3:=e3
           split at e4
           · rename_i hzz
             cases e4
             have r2':=r2
             rw [Rep] at r2'
             subst r2'
             have hl:=yh_
             simp at hzz
             exact ⟨z2,rfl,by omega,hf _ H2 G2 s2 (by rw [Rep]; rfl)⟩
           · cases e4
         | _ => cases e3
noncomputable def Its (x:Str):It:=⟨fun i _ => i < x.length,fun i H v H' => H' = H ∧ ∃ k,x.cps.toList[i]? = some k ∧ v = .str ⟨#[k]⟩,fun i _ => x.length ≤ i⟩
theorem kas_ {P:Program} {w:World} {K:PySem.W.Frag} {tg:Expr} (x:Str) (t:Tok) (it:Addr) (ty:String) (hty:ty = "str_ascii_iterator" ∨ ty = "str_iterator"):Turn P w K tg (Its x) [it] it (fun i h => h.IsStrIter it ty x t i) where
 mem:=by simp
 obj:=fun i h st b hb => by
   have e:b = it:=by simpa using hb
   subst e
   obtain ⟨o,e,c,d⟩:=st
   exact ⟨o,e,fun v z => by rw [d] at z; cases z⟩
 keep:=fun i h h' st k => by
   obtain ⟨o,e,c,d⟩:=st
   exact ⟨o,k it (by simp) o e,c,d⟩
 item:=by
   intro X hP hw hK hc i pins s σ H E I hf st hg
   subst hP hw hK
   have hg:i < x.length:=hg
   have hk:x.cps[i]? = some (x.cps[i]'hg):=Array.getElem?_eq_getElem hg
   have hk':x.cps.toList[i]? = some (x.cps[i]'hg):=by rw [Array.getElem?_toList,hk]
   obtain ⟨f0,f1,f2,f3,f4,f5⟩:=hf it (by simp)
   have fin:∀ h',h'.IsStrIter it ty x t (i + 1)→Heap.SameBut it s.heap h'→∃ u,some (Value.str ⟨#[x.cps[i]'hg]⟩ s.toks) = some u ∧ wpAny (model X.prog X.w) X.A (letOwnedTupleGo tg (.ref it) u) (fun _ s2 => ∃ y H',Inv X pins σ H' s2 ∧ RelV y u ∧ (Its x).yld i H y H' ∧ s2.heap.IsStrIter it ty x t (i + 1) ∧ ∀ b ∈ [it],H' b = none) E { s with heap:=h',toks:=s.toks + 1 }:=fun h' st' sb => by
     have I1:Inv X pins σ H { s with heap:=h',toks:=s.toks + 1 }:=I.turned (t':=s.toks + 1) (fun b o hb e => (sb.2 b hb).trans e) f0 f1 f3 f4 f5
     obtain ⟨o,e,c,d⟩:=id st'
     refine ⟨_,rfl,xap_ (s:={ s with heap:=h',toks:=s.toks + 1 }) e c d (by rcases hty with rfl | rfl <;> decide) ⟨.str _,H,I1,⟨_,rfl⟩,⟨rfl,_,hk',rfl⟩,st',fun b hb => (hf b hb).1⟩⟩
   rcases hty with rfl | rfl
   · exact wpAny_pyNext_ascii_item st hk fin
   · exact wpAny_pyNext_wide_item st hk fin
 done:=by
   intro X hP hw hK hc i pins s σ H E I hf st hg
   subst hP hw hK
   have hg:x.length ≤ i:=hg
   have hk:x.cps[i]? = none:=by simpa [Str.length] using hg
   obtain ⟨f0,f1,f2,f3,f4,f5⟩:=hf it (by simp)
   rcases hty with rfl | rfl
   · exact wpAny_pyNext_ascii_end (I.ok.hd hc) st hk fun h' eb => ⟨rfl,I.turned (t':=s.toks) (fun b o hb e => eb b o hb e) f0 f1 f3 f4 f5⟩
   · exact wpAny_pyNext_wide_end (I.ok.hd hc) st hk fun h' eb => ⟨rfl,I.turned (t':=s.toks) (fun b o hb e => eb b o hb e) f0 f1 f3 f4 f5⟩
 self:=fun _ _ _ _ _ st h => by
   rcases hty with rfl | rfl
   · exact wpAny_pyIter_striter_ascii st h
   · exact wpAny_pyIter_striter_wide st h
theorem ubf_ {tg l:Expr} {tl:TE} (hl:PE X l tl):PI X tg l (fun σ H Q => tl σ H fun x H1 => ∃ z,x = .str z ∧ Q (Its z) H1):=by
 intro pins s σ H Q I h
 refine thn (hl pins s σ H _ I h) fun v s1 ⟨x,H1,I1,r1,z,e,q⟩ => ?_
 subst e
 obtain ⟨t,rfl⟩:=r1
 have fin:∀ ty,(ty = "str_ascii_iterator" ∨ ty = "str_iterator")→PIE X pins σ tg Q (.ref s1.heap.objs.size) { s1 with heap:=s1.heap.push { cls:=.type ty,data:=.fields #[.str z t,.int 0 0] } }:=fun ty hty => by
   refine ⟨s1.heap.objs.size,[s1.heap.objs.size],_,_,H1,rfl,I1.kept (t':=s1.toks) fun b o e => Heap.get?_push_of_some _ e,kas_ z t _ ty hty,⟨_,Heap.get?_push_size _ rfl,rfl,rfl⟩,fun b hb => ?_,q⟩
   have e:b = s1.heap.objs.size:=by simpa using hb
   subst e
   exact I1.fpOk (Nat.le_refl _) (I1.hok.fresh (Nat.le_refl _))
 cases ha:z.cps.all (· < 128)
 · exact wpAny_pyIter_wide ha (fin _ (.inr rfl))
 · exact wpAny_pyIter_ascii ha (fin _ (.inl rfl))
theorem wa5_ {x:Str}:Yld r (Its x) (.str x) (.str x) (DS.ut_ x):=by
 intro H G sub h
 have hl:(DS.ut_ x).length = x.length:=by unfold DS.ut_; simp [Str.length]
 refine ⟨fun i hi => by rw [hl] at hi; exact hi,fun i hi => by rw [hl] at hi; exact hi,fun i v H' hi y => ?_⟩
 obtain ⟨e1,k,e2,rfl⟩:=y
 refine ⟨e1,.str ⟨#[k]⟩,?_,by rw [Rep]⟩
 unfold DS.ut_
 rw [List.getElem?_map,e2]
 rfl
theorem ubm_ {tg:Expr} (ha:PE X a (tE c Ex fa)):PI X tg a (tI c Ex (DS.itS fa)):=(ubf_ ha).imp fun σ H Q h => by
 obtain ⟨ρ,G,hs,ts,us,ρ',r,s,e,hf⟩:=h
 unfold DS.itS DS.bnd at e
 cases q:fa ρ with
 | none => rw [q] at e; cases e
 | some p =>
   obtain ⟨ρ1,x⟩:=p
   rw [q] at e
   cases x with
   | er n => cases e; exact ⟨ρ,G,hs,ts,us,_,.er n,s,q,hf⟩
   | ok d =>
     refine ⟨ρ,G,hs,ts,us,ρ1,.ok d,s,q,fun v H1 G1 s1 r1 => ?_⟩
     obtain ⟨ds,e1,rfl,rfl⟩:=ub_ e
     obtain ⟨z,e2,e3⟩:=Option.bind_eq_some_iff.mp e1
     cases DS.zd_ e2
     split at e3
     · cases e3
       have r1':=r1
       rw [Rep] at r1'
       subst r1'
       exact ⟨z,rfl,hf _ H1 G1 _ _ (s1.push r1) wa5_⟩
     · cases e3
theorem qbf_ {x y:Str} {CM C:Addr} {E:XK} {body:List Stmt} {np rp cpos kp rpos hpos zp:Pos} {j jz} {zs:Str} {cls:List String} {sup:String→Bool} {m:String} {f:FS} (hM:X.mg x = some (.ref CM)) (hC:ExcCls X.K X.mg y C) (hn:c.r.ad m = C)
   (hsup:∀ m,(cls.contains m && sup m) = true→PySem.W.exmOne X.K (.ref (c.r.ad m)) (.ref CM) = some true) (hr:vr_ X E false) (hp:∀ hd,PassesOwnAt (model X.prog X.w) (X.A.mark (some hd)) X.A X.env X.xe)
   (hb:∀ pins Ex',X.Ok→PSs (X.tryX pins Ex' true) body (tS c Ex' f)) (hg:autoParam (Gl X x) au1._auto_1) (hgy:autoParam (Gl X y) au1._auto_1) (hd:autoParam ((x == ("__debug__":Str)) = false) au2._auto_1) (hdy:autoParam ((y == ("__debug__":Str)) = false) au2._auto_1)
   (hf:autoParam (X.env.frame = some X.env.locals) au1._auto_1) (hst:autoParam (X.stack = X.env :: X.outer) au1._auto_1) :
   PS X (.Try body [.ExceptHandler (some (.Name x np)) none [.Raise (some (.Call (.Name y rp) [.Constant (.str zs) jz zp] [] cpos)) (some (.Constant .none j kp)) rpos] hpos] [] [] pos) (tS c (fun _ => E) (DS.sTrX cls sup m f)) :=
 (qba_ (tb:=fun Ex' => tS c Ex' f) hg hM hC hgy hr hp hb hd hdy hf hst).imp fun D σ H h => by
 obtain ⟨ρ,G,hs,ts,us,ρ',o,s,e,hf⟩:=h
 show tS c (yaw_ X.K CM C E) f D σ H
 unfold DS.sTrX at e
 cases q:f ρ with
 | none => rw [q] at e; cases e
 | some p =>
   obtain ⟨ρ1,o1⟩:=p
   rw [q] at e
   refine ⟨ρ,G,hs,ts,us,ρ1,o1,s,q,?_⟩
   cases o1 with
   | nx => cases e; exact hf
   | rt d => cases e; exact hf
   | bk => cases e; exact hf
   | ct => cases e; exact hf
   | er n =>
     intro σ1 H1 G1 s1
     dsimp only at e
     split at e
     · rename_i hm
       cases e
       have:=hf σ1 H1 G1 s1
       rw [hn] at this
       exact ⟨hsup n hm,this⟩
     · cases e
end
end L2
namespace L2
open PySem PySem.Spec PyProof.Rows
open DS (D Sl Rho R M FS O Tg)
section
variable {c:Db} {tg:Tg} {fe:M D} {E:XK}
theorem vae_ {J:It} {D0:Addr} {Q:VK} {σ0:St} {H0 G0:Hp} {ρ1 ρ2:Rho} {k:Nat} {ds:List D} {res:R (List D)} {d:D} {v:V} {hs:List (Addr × List V)} {ts:List D} {us:List V} (s0:SR c ρ1 σ0 H0 G0 hs (d :: ts) (v :: us)) (hy:Yld c.r J d v ds) (hz:ds.length ≤ sizeLine) (ha:DS.above ρ1.length tg = true) (hD:H0 D0 = none)
   (e:DS.yk_ tg fe ds [] (ρ1 ++ List.replicate k .un) = some (ρ2,res)) (q:∀ acc0,res = .ok acc0→∀ p H' G',SR c (ρ2.take ρ1.length) σ0 H' G' hs ts us→Rep c.r G' (.lst acc0) (.ref p)→Q (.ref p) H')
   (qe:∀ n,res = .er n→∀ H' G',SR c (ρ2.take ρ1.length) σ0 H' G' hs ts us→E (.ref (c.r.ad n)) none H') :
   wai_ J (tG c tg) tYes (tE c (fun _ => E) fe) D0 Q (σ0 ++ List.replicate k none) H0:=by
 have ab:=y3_ ha
 refine ⟨fun i m vals σ1 H => m = ds.length - i ∧ i ≤ ds.length ∧ vals.length ≤ i ∧ (∀ j,j < ρ1.length→σ1[j]? = σ0[j]?) ∧ ∃ ρ G acc,SR c ρ σ1 H G ((D0,vals) :: hs) (acc ++ d :: ts) (vals ++ v :: us) ∧ ρ1.length ≤ σ1.length ∧ acc.length = vals.length ∧ DS.yk_ tg fe (ds.drop i) acc ρ = some (ρ2,res),⟨ds.length,by simp,Nat.zero_le _,Nat.le_refl _,fun j hj => ?_,_,G0,[],(s0.wide k).hold hD,?_,rfl,by simpa using e⟩,?_⟩
 · rw [List.getElem?_append_left (by rw [← s0.ln]; exact hj)]
 · simp [s0.ln]
 rintro i m vals σ1 H ⟨rfl,hi,hvi,hsame,ρ,G,acc,s,hlen,hal,e1⟩
 refine ⟨s.pre,?_⟩
 obtain ⟨ta,sd⟩:=s.split hal
 obtain ⟨rd,_⟩:=sd.pop1
 obtain ⟨hgo,hstop,hyl⟩:=hy H G s.sub rd
 by_cases hlt:i < ds.length
 · refine .inr ⟨hgo i hlt,by omega,fun x H' y => ?_⟩
   obtain ⟨rfl,e0,e2,rx⟩:=hyl i x H' hlt y
   have hdrop:ds.drop i = e0 :: ds.drop (i + 1):=by
     obtain ⟨h1,h2⟩:=List.getElem?_eq_some_iff.mp e2
     rw [← h2]; exact List.drop_eq_getElem_cons h1
   rw [hdrop] at e1
   have e1':(match DS.asg tg e0 ρ with
     | none => none
     | some ρ1 => match fe ρ1 with
       | some (ρ3,.ok v) => DS.yk_ tg fe (ds.drop (i + 1)) (acc ++ [v]) ρ3
       | some (ρ3,.er n) => some (ρ3,.er n)
       | none => none) = some (ρ2,res):=e1
   cases q1:DS.asg tg e0 ρ with
   | none => rw [q1] at e1'; cases e1'
   | some ρa =>
     rw [q1] at e1'
     dsimp only at e1'
     refine ⟨ρ,G,_,_,_,e0,ρa,s,rx,q1,fun σ2 s2 up => ?_⟩
     have same2:∀ j,j < ρ1.length→σ2[j]? = σ0[j]?:=fun j hj => by
       rw [up.2 j (fun hm => by have:=ab j hm; omega)]; exact hsame j hj
     have len2:ρ1.length ≤ σ2.length:=by rw [up.1]; exact hlen
     show tE c (fun _ => E) fe σ2 _ _
     cases q2:fe ρa with
     | none => rw [q2] at e1'; cases e1'
     | some p =>
       obtain ⟨ρd,y⟩:=p
       rw [q2] at e1'
       cases y with
       | er n =>
         cases e1'
         refine ⟨ρa,G,_,_,_,ρ2,.er n,s2,q2,fun H4 G4 s4 => ?_⟩
         obtain ⟨ta4,sd4⟩:=s4.split hal
         obtain ⟨_,sd5⟩:=sd4.pop1
         obtain ⟨s6,_⟩:=sd5.given ta4 (by omega)
         exact qe n rfl H4 _ (s6.narrow (by rw [s0.ln]) len2 same2)
       | ok ve =>
         dsimp only at e1'
         refine ⟨ρa,G,_,_,_,ρd,.ok ve,s2,q2,fun w H4 G4 s4 r4 => ?_⟩
         refine ⟨s4.pre,ds.length - (i + 1),by omega,rfl,hlt,by simp; omega,same2,ρd,G4,acc ++ [ve],?_,len2,by simp [hal],e1'⟩
         obtain ⟨ta4,sd4⟩:=s4.split hal
         exact (sd4.pushs (ta4.snoc r4)).held w
 · have e3:i = ds.length:=by omega
   subst e3
   rw [List.drop_length] at e1
   cases e1
   refine .inl ⟨hstop _ (Nat.le_refl _),?_⟩
   obtain ⟨_,sd2⟩:=sd.pop1
   obtain ⟨s6,r6⟩:=sd2.given ta (by omega)
   exact q acc rfl _ H _ (s6.narrow (by rw [s0.ln]) hlen hsame) r6
theorem zam_ {fi:M (List D)} {k:Nat} {σ:St} {H:Hp} {Q:VK} (h:tE c (fun _ => E) (DS.uad_ fi tg k fe) σ H Q):j6_ (tI c (fun _ => E) fi) (tG c tg) tYes (tE c (fun _ => E) fe) k σ H Q:=by
 obtain ⟨ρ,G,hs,ts,us,ρ',r,s,e,hf⟩:=h
 unfold DS.uad_ at e
 cases q:fi ρ with
 | none => rw [q] at e; cases e
 | some p =>
   obtain ⟨ρ1,x⟩:=p
   rw [q] at e
   cases x with
   | er n => cases e; exact ⟨ρ,G,hs,ts,us,_,.er n,s,q,hf⟩
   | ok ds =>
     dsimp only at e
     split at e
     · rename_i hc
       rw [Bool.and_eq_true,decide_eq_true_eq] at hc
       cases q2:DS.yk_ tg fe ds [] (ρ1 ++ List.replicate k .un) with
       | none => rw [q2] at e; cases e
       | some p2 =>
         obtain ⟨ρ2,res⟩:=p2
         rw [q2] at e
         refine ⟨ρ,G,hs,ts,us,ρ1,.ok ds,s,q,fun J H1 G1 d v s1 hy D0 hD => vae_ s1 hy hc.1 hc.2 hD q2 (fun acc0 hr p H' G' s' r' => ?_) fun n hr H' G' s' => ?_⟩
         · subst hr
           cases e
           exact hf _ H' G' s' r'
         · subst hr
           cases e
           exact hf H' G' s'
     · cases e
end
section
variable {X:Cx} {c:Db} {E:XK} {scope:Scope} {ns:List Str} {tg iter elt:Expr} {pos:Pos} {fi:M (List D)} {g:Tg} {fe:M D}
theorem ja5_ (hF:z7_ X E) (hi:PI X tg iter (tI c (fun _ => E) fi)) (hg:∀ C s H fp,PG (X.blockX E X.N scope ns C s H fp) tg (tG c g)) (he:∀ C s H fp,PE (X.blockX E X.N scope ns C s H fp) elt (tE c (fun _ => E) fe))
   (hc:autoParam (X.calm = true) au1._auto_1) (chk:autoParam (ji_ X.env.scope scope X.N = true) au1._auto_1) (hs:autoParam (∀ x,foldedSetIterable iter X.env x = pure x) au3._auto_1) (hfm:autoParam (X.env.frame = some X.env.locals) au1._auto_1) (hst:autoParam (X.stack = X.env :: X.outer) au1._auto_1) :
   PE X (.ListComp elt [⟨tg,iter,[],0⟩] scope pos) (tE c (fun _ => E) (DS.uad_ fi g ns.length fe)) :=
 (uaq_ (N':=X.N) hc hF (kx_ chk) hi hg (fun _ _ _ _ => xai_) he hs hfm hst).imp fun _ _ _ h => zam_ h
end
theorem yam_:bootBuiltins "str" = some (.type "str"):=by decide +kernel
theorem vas_:bootBuiltins "int" = some (.type "int"):=by decide +kernel
theorem uae_ (l:Addr) (ja_:Array Value) (n:Nat) (b:Addr) (items2:Array Value) (n2:Nat) (sl:Array (Option Value)) (hc0:¬(!ja_.isEmpty && Builtin.List.listTooLong (ja_.size + items2.size)) = true) (hc1:ja_.size ≤ sizeLine) (hs2:ja_.size + items2.size ≤ sizeLine + 1) :
   Meets (Builtin.«list.extend» ⟨[.ref l,.ref b],[]⟩) (fun _ R s => s.heap.get? l = some { cls:=.type "list",dict:=none,data:=.seq ja_ n,slots:=#[] } ∧ s.heap.get? b = some { cls:=.type "list",dict:=none,data:=.seq items2 n2,slots:=sl } ∧ R (.ok (.ret Value.none)) { s with heap:=s.heap.update l (Obj.mapSeq fun x => x ++ items2),toks:=s.toks }) :=
 .of_wp fun prog w A R s h => by
   obtain ⟨hp,g,d,tk,os⟩:=s
   obtain ⟨hl,hb,h⟩:=h
   have f3:=AutoSeq1.sub_list_list
   have f5:=AutoSeq1.sub_list_tuple
   have hz':(ja_ ++ items2).size ≤ sizeLine + 1:=by rw [Array.size_append]; exact hs2
   wp_walk using (wpAny_updateSeq hl rfl (hz:=hc1) (_hz':=hz')),AutoSeq1.wpAny_loadPart' hl,AutoSeq1.wpAny_loadPart' hb
   exact ⟨_,rfl,h⟩
section
variable {X:Cx} {c:Db} {Ex:St→XK} {a:Expr} {fa:M D} {pos:Pos}
noncomputable def qbm_ (K:PySem.W.Frag):V→List V→Hp→VK→Prop:=fun x vs H Q => ∃ l b xs zs,x = .ref l ∧ vs = [.ref b] ∧ H l = some (.lst xs) ∧ SqL K H b zs ∧ xs.length + zs.length ≤ sizeLine ∧ Q .non (upd H l (.lst (xs ++ zs)))
theorem ka5_:MtM X "list.extend" (qbm_ X.K):=by
 intro pins s σ H x vs v us Q I rx rv ⟨l,b,xs,zs,e1,e2,hH,hB,hz,q⟩
 subst e1 e2
 cases rx
 obtain ⟨u,rfl,ru⟩:=rv.one
 cases ru
 obtain ⟨z,its,n,r,hl,e⟩:=I.lstM hH
 obtain ⟨its2,r2,p2,z2⟩:=I.list hB
 obtain ⟨⟨ocls,odict,odata,osl⟩,n2,eb,hcl,hdd,hdt⟩:=p2
 simp only at hcl hdd hdt
 subst hcl hdd hdt
 have hl2:=r2.length
 have hsz:its.toArray.size + its2.toArray.size ≤ sizeLine:=by rw [List.size_toArray,List.size_toArray]; omega
 have hlong:¬ (!its.toArray.isEmpty && Builtin.List.listTooLong (its.toArray.size + its2.toArray.size)) = true:=by
   rw [zaq_ hsz,Bool.and_false]
   exact Bool.false_ne_true
 refine call_meets F.slot_list_extend ⟨_,e,rfl⟩ F.entry_list_extend (F.args_list_extend_2 _ _)
   (uae_ l its.toArray n b its2.toArray n2 osl hlong (by rw [List.size_toArray]; omega) (by omega)) ⟨e,eb,?_⟩
 refine ⟨.non,_,I.lset (its':=its ++ its2) hH e (by simp) (r.append r2) ?_,rfl,q⟩
 rw [List.length_append]
 omega
theorem zbn_ (i:Nat) {x:Str} {p apos cpos:Pos} (ha:PE X a (tE c Ex fa)) (hN:autoParam (X.N[i]? = some x) au1._auto_1) (hv:autoParam (Vis X.env.scope x) au6._auto_1) (hd:autoParam ((x == ("__debug__":Str)) = false) au2._auto_1) (hcd:autoParam ((x == ("__classdict__":Str)) = false) au2._auto_1)
   (hbase:autoParam (attributeBase (.Name x p) "extend" X.env (eval (.Name x p) X.env) = eval (.Name x p) X.env) au1._auto_1)
   (hfew:((backTo cpos (starEach [a] X.env)).all (fun x => !x.1) && (backToKw cpos (keywordEach [] X.env)).all (fun x => x.1.isSome)
     && decide ([a].length + ([]:List Keyword).length + (if ([]:List Keyword).isEmpty then 0 else 1) < 30)) = true:=by rfl)
   (hline:autoParam ((apos.endLine == cpos.line) = true) au1._auto_1) (hs:autoParam (starEach [a] X.env = (false,eval a X.env) :: starEach [] X.env) au1._auto_1) (hplain:autoParam ((backTo cpos (starEach [] X.env)).any (·.1) = false) au1._auto_1)
   (hsw:autoParam (swapsWith (.Call (.Attribute (.Name x p) "extend" apos) [a] [] cpos) none pos.line X.env = pure false) au1._auto_1) (hK:autoParam (X.K = c.r.K) au1._auto_1) :
   PS X (.Expr (.Call (.Attribute (.Name x p) "extend" apos) [a] [] cpos) pos) (tS c Ex (DS.sX i fa)) :=
 (z6_ (kah_ PySem.F.plainAttrs_list PySem.F.slot_list_extend PySem.F.type_list_extend ka5_ (yag_ hN hv hd hcd) (vj_ ha xr_ hs) hbase hfew hline hs hplain) hsw).imp fun E σ H h => by
 obtain ⟨ρ,G,hs,ts,us,ρ',o,s,e,hf⟩:=h
 unfold DS.sX at e
 cases q0:ρ[i]? with
 | none => rw [q0] at e; cases e
 | some sl =>
   rw [q0] at e
   cases sl with
   | un => cases e
   | sh d => cases e
   | ow xs =>
     obtain ⟨a,vs,h1,h2,h3⟩:=s.ow i xs q0
     refine ⟨.ref a,h1,.inl ⟨rfl,vs,SqL.of h2⟩,?_⟩
     dsimp only at e
     cases q:fa ρ with
     | none => rw [q] at e; cases e
     | some p =>
       obtain ⟨ρ1,y⟩:=p
       rw [q] at e
       cases y with
       | er n => cases e; exact ⟨ρ,G,hs,ts,us,_,.er n,s,q,fun H' G' s' => hf σ H' G' s'⟩
       | ok d =>
         refine ⟨ρ,G,hs,ts,us,ρ1,.ok d,s,q,fun v H1 G1 s1 r1 => ?_⟩
         cases d with
         | lst ys =>
           dsimp only at e
           cases q1:ρ1[i]? with
           | none => rw [q1] at e; cases e
           | some sl1 =>
             rw [q1] at e
             cases sl1 with
             | un => cases e
             | sh d => cases e
             | ow zs =>
               dsimp only at e
               split at e
               · rename_i hz
                 cases e
                 rw [Rep] at r1
                 obtain ⟨p,ws,rfl,qa,la,ta⟩:=r1
                 obtain ⟨a',vs',k1,k2,k3,k4⟩:=s1.extd ta q1 hz
                 rw [h1] at k1
                 cases k1
                 exact ⟨a,p,vs',ws,rfl,rfl,k2,by rw [hK]; exact s1.sub.seq qa,k3,hf σ _ _ k4⟩
               · cases e
         | _ => cases e
end
end L2
namespace FW
open DS
noncomputable def clss:List String:=["MarkError","BadWeb","BadSet","BadSteps","BadTree","BadText"]
noncomputable def sup (n m:String):Bool:=match n with
 | "MarkError" => ["MarkError","ValueError"].contains m
 | "BadWeb" => ["BadWeb","MarkError","ValueError"].contains m
 | "BadSet" => ["BadSet","MarkError","ValueError"].contains m
 | "BadSteps" => ["BadSteps","MarkError","ValueError"].contains m
 | "BadTree" => ["BadTree","MarkError","ValueError"].contains m
 | "BadText" => ["BadText","MarkError","ValueError"].contains m
 | _ => false
noncomputable def jm_:List D→Option (R D):=run 1 1 (sR (blt allF (ya_ (yf_ (itR1 (ya_ (op2 subD (blt lenF (ya_ (vr 0) (nilA))) (cst (.int 1))) (nilA))) (.nm 1) 1 (yes) (op2 ltF (op2 ixD (vr 0) (vr 1)) (op2 ixD (vr 0) (op2 addD (vr 1) (cst (.int 1)))))) (nilA))))
noncomputable def uq_:List D→Option (R D):=run 2 2 (sR (andV (cal jm_ (ya_ (vr 1) (nilA))) (blt allF (ya_ (yf_ (itE (vr 1)) (.nm 2) 1 (yes) (chn leF ltF (cst (.int 0)) (vr 2) (vr 0))) (nilA)))))
noncomputable def xk_:List D→Option (R D):=run 2 2 (sR (andV (op2 eqF (blt lenF (ya_ (vr 1) (nilA))) (cst (.int 2))) (cal uq_ (ya_ (vr 0) (ya_ (vr 1) (nilA))))))
noncomputable def wf_:List D→Option (R D):=run 1 3 (sq (sI (tsB (op2 neF (blt lenF (ya_ (vr 0) (nilA))) (cst (.int 2)))) (sT "BadWeb") (sNx)) (sq (sA (.nm 1) (op2 ixD (vr 0) (cst (.int 0)))) (sq (sA (.nm 2) (op2 ixD (vr 0) (cst (.int 1)))) (sq (sI (notT (tsB (chn leF leF (cst (.int 0)) (vr 1) (cst (.int 10))))) (sT "BadWeb") (sNx)) (sq (sI (notT (tst (blt allF (ya_ (yf_ (itE (vr 2)) (.nm 3) 1 (yes) (cal xk_ (ya_ (vr 1) (ya_ (vr 3) (nilA))))) (nilA))))) (sT "BadWeb") (sNx)) (sI (notT (tst (cal jm_ (ya_ (vr 2) (nilA))))) (sT "BadWeb") (sNx)))))))
noncomputable def yn_:List D→Option (R D):=run 2 2 (sR (op2 addD (fsE (ya_ (op1 fmtD (vr 0)) (ya_ (cst (.str (PySem.Str.ofString ":"))) (nilA)))) (opS q1_ (cst (.str (PySem.Str.ofString ""))) (yf_ (itE (vr 1)) (.nm 2) 1 (yes) (fsE (ya_ (cst (.str (PySem.Str.ofString " "))) (ya_ (op1 fmtD (vr 2)) (nilA))))))))
noncomputable def vg_:List D→Option (R D):=run 1 5 (sq (sE (cal wf_ (ya_ (vr 0) (nilA)))) (sq (sA (.nm 1) (op2 ixD (vr 0) (cst (.int 0)))) (sq (sO 2 (ya_ (fsE (ya_ (op1 fmtD (cst (.str (PySem.Str.ofString "spots ")))) (ya_ (op1 fmtD (vr 1)) (nilA)))) (nilA))) (sq (sF (itR1 (ya_ (vr 1) (nilA))) (.nm 3) (sq (sA (.nm 4) (yf_ (itE (op2 ixD (vr 0) (cst (.int 1)))) (.nm 5) 1 (tsB (op2 eqF (op2 ixD (vr 5) (cst (.int 0))) (vr 3))) (op2 ixD (vr 5) (cst (.int 1))))) (sI (tst (vr 4)) (sP 2 (cal yn_ (ya_ (vr 3) (ya_ (vr 4) (nilA))))) (sNx)))) (sR (opS q1_ (cst (.str (PySem.Str.ofString "\n"))) (vr 2)))))))
noncomputable def qb_:List D→Option (R D):=run 2 3 (sq (sF (itR1 (ya_ (vr 0) (nilA))) (.nm 2) (sI (tsB (op2 eqF (blt strF (ya_ (vr 2) (nilA))) (vr 1))) (sR (vr 2)) (sNx))) (sT "BadText"))
noncomputable def qh_:List D→Option (R D):=run 2 4 (sq (sA (.nm 2) (opS jj_ (vr 0) (cst (.str (PySem.Str.ofString " "))))) (sq (sI (notT (tst (opS ewD (op2 ixD (vr 2) (cst (.int 0))) (cst (.str (PySem.Str.ofString ":")))))) (sT "BadText") (sNx)) (sq (sA (.nm 3) (cal qb_ (ya_ (vr 1) (ya_ (slSE (op2 ixD (vr 2) (cst (.int 0))) none (some (op1 negD (cst (.int 1))))) (nilA))))) (sR (uad_ (itE (slE (vr 2) (some (cst (.int 1))) none)) (.nm 4) 1 (tupE (ya_ (vr 3) (ya_ (cal qb_ (ya_ (vr 1) (ya_ (vr 4) (nilA)))) (nilA)))))))))
noncomputable def vb_:List D→Option (R D):=run 1 1 (sTrX clss (fun n => sup n "BadWeb") "BadText" (sR (cal vg_ (ya_ (vr 0) (nilA)))))
noncomputable def q3_:List D→Option (R D):=run 1 6 (sq (sA (.nm 1) (opS jj_ (vr 0) (cst (.str (PySem.Str.ofString "\n"))))) (sq (sI (notT (tst (opS swD (op2 ixD (vr 1) (cst (.int 0))) (cst (.str (PySem.Str.ofString "spots ")))))) (sT "BadText") (sNx)) (sq (sA (.nm 2) (cal qb_ (ya_ (op2 addD (cst (.int 10)) (cst (.int 1))) (ya_ (slSE (op2 ixD (vr 1) (cst (.int 0))) (some (blt lenS (ya_ (cst (.str (PySem.Str.ofString "spots "))) (nilA)))) none) (nilA))))) (sq (sO 3 (nilA)) (sq (sF (itE (slE (vr 1) (some (cst (.int 1))) none)) (.nm 4) (sX 3 (cal qh_ (ya_ (vr 4) (ya_ (vr 2) (nilA)))))) (sq (sA (.nm 5) (tupE (ya_ (vr 2) (ya_ (vr 3) (nilA))))) (sq (sI (tsB (op2 neF (cal vb_ (ya_ (vr 5) (nilA))) (vr 0))) (sT "BadText") (sNx)) (sR (vr 5)))))))))
noncomputable def qk_:List D→Option (R D):=run 2 2 (sq (sI (tst (vr 0)) (sR (op2 ixD (vr 0) (op2 modD (vr 1) (blt lenF (ya_ (vr 0) (nilA)))))) (sNx)) (sR (cst (.int 0))))
noncomputable def uc_:List D→Option (R D):=run 2 3 (sq (sA (.nm 2) (op2 modD (op2 addD (cal qk_ (ya_ (vr 0) (ya_ (vr 1) (nilA)))) (op2 mulD (cst (.int 104729)) (op2 addD (vr 1) (cst (.int 1))))) (cst (.int 4294967291)))) (sq (sA (.nm 2) (op2 modD (op2 mulD (vr 2) (cst (.int 48271))) (cst (.int 4294967279)))) (sR (op2 modD (op2 addD (op2 mulD (op2 fdvD (vr 2) (cst (.int 64))) (cst (.int 69621))) (vr 2)) (cst (.int 4294967231))))))
noncomputable def xn_:List D→Option (R D):=run 3 10 (sq (sA (.nm 3) (op2 modD (cal uc_ (ya_ (vr 0) (ya_ (vr 1) (nilA)))) (op2 addD (vr 2) (cst (.int 1))))) (sq (sA (.nm 4) (op2 modD (cal uc_ (ya_ (vr 0) (ya_ (op2 addD (vr 1) (cst (.int 1))) (nilA)))) (cst (.int 5)))) (sq (sO 5 (nilA)) (sq (sF (itR1 (ya_ (vr 3) (nilA))) (.nm 6) (sF (itR2 (ya_ (op2 addD (vr 6) (cst (.int 1))) (ya_ (vr 3) (nilA)))) (.nm 7) (sq (sA (.nm 8) (op2 fdvD (cal uc_ (ya_ (vr 0) (ya_ (op2 addD (op2 addD (op2 addD (vr 1) (cst (.int 2))) (op2 mulD (cst (.int 8)) (vr 6))) (vr 7)) (nilA)))) (cst (.int 8)))) (sq (sA (.nm 9) (orV (andV (op2 eqF (vr 4) (cst (.int 0))) (op2 eqF (vr 7) (op2 addD (vr 6) (cst (.int 1))))) (andV (op2 eqF (vr 4) (cst (.int 1))) (op2 eqF (vr 6) (op2 modD (vr 8) (vr 7)))))) (sI (orT (tst (vr 9)) (andT (tsB (op2 gtF (vr 4) (cst (.int 1)))) (tsB (op2 ltF (op2 modD (vr 8) (cst (.int 6))) (vr 4))))) (sP 5 (tupE (ya_ (vr 6) (ya_ (vr 7) (nilA))))) (sNx)))))) (sR (tupE (ya_ (vr 3) (ya_ (vr 5) (nilA)))))))))
noncomputable def ke_:List D→Option (R D):=run 1 2 (sq (sI (tsB (op1 isN (vr 0))) (sR (cst (.str (PySem.Str.ofString "ok")))) (sNx)) (sq (sA (.nm 1) (lstE (ya_ (op1 (isiE clss sup "BadSet") (vr 0)) (ya_ (op1 (isiE clss sup "BadSteps") (vr 0)) (ya_ (op1 (isiE clss sup "BadText") (vr 0)) (nilA)))))) (sq (sA (.nm 1) (op2 addD (vr 1) (lstE (ya_ (op1 (isiE clss sup "BadTree") (vr 0)) (ya_ (op1 (isiE clss sup "BadWeb") (vr 0)) (nilA)))))) (sq (sI (orT (tsB (op2 neF (opL cntD (vr 1) (cst (.bl true))) (cst (.int 1)))) (notT (tst (op1 (isiE clss sup "ValueError") (vr 0))))) (sR (cst (.str (PySem.Str.ofString "wrong")))) (sNx)) (sR (op2 ixD (lstE (ya_ (cst (.str (PySem.Str.ofString "set"))) (ya_ (cst (.str (PySem.Str.ofString "steps"))) (ya_ (cst (.str (PySem.Str.ofString "text"))) (ya_ (cst (.str (PySem.Str.ofString "tree"))) (ya_ (cst (.str (PySem.Str.ofString "web"))) (nilA))))))) (opL idxD (vr 1) (cst (.bl true)))))))))
noncomputable def wg_:List D→Option (R D):=run 1 4 (sq (sO 1 (ya_ (op2 addD (cst (.str (PySem.Str.ofString "spots "))) (blt strF (ya_ (op2 ixD (vr 0) (cst (.int 0))) (nilA)))) (nilA))) (sq (sF (itR1 (ya_ (op2 ixD (vr 0) (cst (.int 0))) (nilA))) (.nm 2) (sq (sA (.nm 3) (yf_ (itE (op2 ixD (vr 0) (cst (.int 1)))) (.tp [4,5]) 2 (tsB (op2 eqF (vr 4) (vr 2))) (blt strF (ya_ (vr 5) (nilA))))) (sI (tsB (op2 neF (vr 3) (lstE (nilA)))) (sP 1 (op2 addD (op2 addD (blt strF (ya_ (vr 2) (nilA))) (cst (.str (PySem.Str.ofString ": ")))) (opS q1_ (cst (.str (PySem.Str.ofString " "))) (vr 3)))) (sNx)))) (sR (opS q1_ (cst (.str (PySem.Str.ofString "\n"))) (vr 1)))))
noncomputable def yc_:List D→Option (R D):=run 1 3 (sq (sO 1 (nilA)) (sq (sF (itE (vr 0)) (.nm 2) (sq (sI (orT (tsB (op2 eqF (vr 2) (cst (.str (PySem.Str.ofString ""))))) (orT (tsB (op2 gtF (blt lenS (ya_ (vr 2) (nilA))) (cst (.int 2)))) (orT (notT (tst (blt allF (ya_ (yf_ (itS (vr 2)) (.nm 3) 1 (yes) (op2 inS (vr 3) (cst (.str (PySem.Str.ofString "0123456789"))))) (nilA))))) (tsB (op2 neF (blt strF (ya_ (blt intF (ya_ (vr 2) (nilA))) (nilA))) (vr 2)))))) (sR (cst .non)) (sNx)) (sP 1 (blt intF (ya_ (vr 2) (nilA)))))) (sR (vr 1))))
noncomputable def zj_:List D→Option (R D):=run 1 9 (sq (sA (.nm 1) (opS jj_ (vr 0) (cst (.str (PySem.Str.ofString "\n"))))) (sq (sA (.nm 2) (cal yc_ (ya_ (lstE (ya_ (slSE (op2 ixD (vr 1) (cst (.int 0))) (some (cst (.int 6))) none) (nilA))) (nilA)))) (sq (sI (orT (tsB (op2 neF (slSE (op2 ixD (vr 1) (cst (.int 0))) none (some (cst (.int 6)))) (cst (.str (PySem.Str.ofString "spots "))))) (tsB (op1 isN (vr 2)))) (sR (cst .non)) (sNx)) (sq (sA (.nm 3) (lstE (nilA))) (sq (sF (itE (slE (vr 1) (some (cst (.int 1))) none)) (.nm 4) (sq (sA (.nm 5) (opS jj_ (vr 4) (cst (.str (PySem.Str.ofString ": "))))) (sq (sI (orT (tsB (op2 neF (blt lenF (ya_ (vr 5) (nilA))) (cst (.int 2)))) (orT (tsB (op1 isN (cal yc_ (ya_ (slE (vr 5) none (some (cst (.int 1)))) (nilA))))) (tsB (op1 isN (cal yc_ (ya_ (opS jj_ (op2 ixD (vr 5) (cst (.int 1))) (cst (.str (PySem.Str.ofString " ")))) (nilA))))))) (sR (cst .non)) (sNx)) (sA (.nm 3) (op2 addD (vr 3) (yf_ (itE (opS jj_ (op2 ixD (vr 5) (cst (.int 1))) (cst (.str (PySem.Str.ofString " "))))) (.nm 9) 1 (yes) (tupE (ya_ (blt intF (ya_ (op2 ixD (vr 5) (cst (.int 0))) (nilA))) (ya_ (blt intF (ya_ (vr 9) (nilA))) (nilA)))))))))) (sq (sA (.nm 6) (tupE (ya_ (op2 ixD (vr 2) (cst (.int 0))) (ya_ (vr 3) (nilA))))) (sq (sA (.nm 7) (cst .non)) (sq (sTry clss (fun n => sup n "BadWeb") 8 (sE (cal wf_ (ya_ (vr 6) (nilA)))) (sA (.nm 7) (vr 8))) (sR (ifE (andT (tsB (op1 isN (vr 7))) (tsB (op2 eqF (cal wg_ (ya_ (vr 6) (nilA))) (vr 0)))) (vr 6) (cst .non)))))))))))
noncomputable def lw1:FS:=sA (.nm 1) (cal xn_ (ya_ (vr 0) (ya_ (cst (.int 0)) (ya_ (cst (.int 7)) (nilA)))))
noncomputable def lw2:FS:=sA (.nm 2) (cal wg_ (ya_ (vr 1) (nilA)))
noncomputable def lw3:FS:=sI (orT (tsB (op2 neF (cal vg_ (ya_ (vr 1) (nilA))) (vr 2))) (tsB (op2 neF (cal q3_ (ya_ (vr 2) (nilA))) (vr 1)))) (sR (cst (.bl false))) (sNx)
noncomputable def lw4:FS:=sF (itR1 (ya_ (op2 addD (cst (.int 1)) (op2 modD (cal uc_ (ya_ (vr 0) (ya_ (cst (.int 90)) (nilA)))) (cst (.int 2)))) (nilA))) (.nm 3) (sq (sA (.nm 4) (cal uc_ (ya_ (vr 0) (ya_ (op2 addD (cst (.int 91)) (vr 3)) (nilA))))) (sq (sA (.nm 5) (op2 modD (op2 fdvD (vr 4) (cst (.int 8))) (op2 addD (blt lenS (ya_ (vr 2) (nilA))) (cst (.int 1))))) (sq (sA (.nm 6) (op2 ixS (cst (.str (PySem.Str.ofString "0123 :\nspt7"))) (op2 modD (op2 fdvD (vr 4) (cst (.int 4096))) (cst (.int 11))))) (sq (sA (.nm 7) (lstE (ya_ (op2 addD (op2 addD (slSE (vr 2) none (some (vr 5))) (vr 6)) (slSE (vr 2) (some (vr 5)) none)) (ya_ (op2 addD (op2 addD (slSE (vr 2) none (some (vr 5))) (vr 6)) (slSE (vr 2) (some (op2 addD (vr 5) (cst (.int 1)))) none)) (ya_ (op2 addD (slSE (vr 2) none (some (vr 5))) (slSE (vr 2) (some (op2 addD (vr 5) (cst (.int 1)))) none)) (nilA)))))) (sA (.nm 2) (op2 ixD (vr 7) (op2 modD (vr 4) (cst (.int 3)))))))))
noncomputable def lw5:FS:=sI (andT (tsB (op2 eqF (op2 modD (cal uc_ (ya_ (vr 0) (ya_ (cst (.int 93)) (nilA)))) (cst (.int 6))) (cst (.int 0)))) (tsB (op2 gtF (opS cntS (vr 2) (cst (.str (PySem.Str.ofString "\n")))) (cst (.int 1))))) (sq (sA (.nm 8) (opS jj_ (vr 2) (cst (.str (PySem.Str.ofString "\n"))))) (sA (.nm 2) (opS q1_ (cst (.str (PySem.Str.ofString "\n"))) (op2 addD (lstE (ya_ (op2 ixD (vr 8) (cst (.int 0))) (nilA))) (op1 revD (slE (vr 8) (some (cst (.int 1))) none)))))) (sNx)
noncomputable def lw6:FS:=sA (.nm 9) (cst .non)
noncomputable def lw7:FS:=sA (.nm 10) (cst .non)
noncomputable def lw8:FS:=sTry clss (fun n => sup n "MarkError") 11 (sA (.nm 10) (cal q3_ (ya_ (vr 2) (nilA)))) (sA (.nm 9) (vr 11))
noncomputable def lw9:FS:=sA (.nm 12) (cal zj_ (ya_ (vr 2) (nilA)))
noncomputable def lw10:FS:=sI (tsB (op1 noN (vr 12))) (sR (andV (op1 isN (vr 9)) (op2 eqF (vr 10) (vr 12)))) (sNx)
noncomputable def lw11:FS:=sI (tsB (op2 neF (cal ke_ (ya_ (vr 9) (nilA))) (cst (.str (PySem.Str.ofString "text"))))) (sR (cst (.bl false))) (sNx)
noncomputable def lw12:FS:=sA (.nm 9) (cst .non)
noncomputable def lw13:FS:=sTry clss (fun n => sup n "MarkError") 11 (sE (cal vg_ (ya_ (tupE (ya_ (cst (.int 11)) (ya_ (lstE (nilA)) (nilA)))) (nilA)))) (sA (.nm 9) (vr 11))
noncomputable def lw14:FS:=sR (op2 eqF (cal ke_ (ya_ (vr 9) (nilA))) (cst (.str (PySem.Str.ofString "web"))))
noncomputable def va5_:List D→Option (R D):=run 1 13 (sq lw1 (sq lw2 (sq lw3 (sq lw4 (sq lw5 (sq lw6 (sq lw7 (sq lw8 (sq lw9 (sq lw10 (sq lw11 (sq lw12 (sq lw13 (lw14))))))))))))))
end FW
namespace FW
open PySem DS PyProof.Rows PySem.StrLaws
theorem wk_ {x y:Str} (h:x.cps.toList = y.cps.toList):x = y:=by
 cases x; cases y
 exact congrArg Str.mk (Array.toList_inj.mp h)
theorem ug_ (x y:Str):(x ++ y).cps.toList = x.cps.toList ++ y.cps.toList:=by
 show (x.cps ++ y.cps).toList = _
 simp
theorem xam_ {c:Nat}:∀ {a b r t:List Nat},¬ c ∈ a→¬ c ∈ b→a ++ c :: r = b ++ c :: t→a = b ∧ r = t
 | [],[],_,_,_,_,h => ⟨rfl,by simpa using h⟩
 | [],y :: b,_,_,_,hb,h => by
   simp at h
   exact absurd (by simp [h.1]) hb
 | x :: a,[],_,_,ha,_,h => by
   simp at h
   exact absurd (by simp [h.1]) ha
 | x :: a,y :: b,r,t,ha,hb,h => by
   simp at h
   obtain ⟨e1,e2⟩:=xam_ (fun z => ha (by simp [z])) (fun z => hb (by simp [z])) h.2
   exact ⟨by rw [h.1,e1],e2⟩
theorem qq_ (s p q:Str) (r:List Str):Str.join s (p :: q :: r) = p ++ s ++ Str.join s (q :: r):=rfl
theorem qv_ (c:Nat) (p q:Str) (r:List Str):(Str.join ⟨#[c]⟩ (p :: q :: r)).cps.toList = p.cps.toList ++ c :: (Str.join ⟨#[c]⟩ (q :: r)).cps.toList:=by
 rw [qq_,ug_,ug_,List.append_assoc]
 rfl
theorem qaa_ (c:Nat):∀ {ps qs:List Str},ps ≠ []→qs ≠ []→(∀ p ∈ ps,¬ c ∈ p.cps.toList)→(∀ q ∈ qs,¬ c ∈ q.cps.toList)→Str.join ⟨#[c]⟩ ps = Str.join ⟨#[c]⟩ qs→ps = qs
 | [],_,h,_,_,_,_ => absurd rfl h
 | _,[],_,h,_,_,_ => absurd rfl h
 | [p],[q],_,_,_,_,h => by rw [show p = q from h]
 | [p],q :: q' :: r,_,_,hp,_,h => by
   have e:=congrArg (fun x:Str => x.cps.toList) h
   rw [qv_] at e
   have:p.cps.toList = q.cps.toList ++ c :: (Str.join ⟨#[c]⟩ (q' :: r)).cps.toList:=e
   exact absurd (by rw [this]; simp) (hp p (by simp))
 | p :: p' :: r,[q],_,_,_,hq,h => by
   have e:=congrArg (fun x:Str => x.cps.toList) h
   rw [qv_] at e
   have:q.cps.toList = p.cps.toList ++ c :: (Str.join ⟨#[c]⟩ (p' :: r)).cps.toList:=e.symm
   exact absurd (by rw [this]; simp) (hq q (by simp))
 | p :: p' :: r,q :: q' :: t,_,_,hp,hq,h => by
   have e:=congrArg (fun x:Str => x.cps.toList) h
   rw [qv_,qv_] at e
   obtain ⟨e1,e2⟩:=xam_ (hp p (by simp)) (hq q (by simp)) e
   rw [wk_ e1,qaa_ c (by simp) (by simp) (fun x hx => hp x (by simp at hx ⊢; exact .inr hx)) (fun x hx => hq x (by simp at hx ⊢; exact .inr hx)) (wk_ e2)]
theorem qo_ (c:Nat) {ps:List Str} (h0:ps ≠ []) (h:∀ p ∈ ps,¬ c ∈ p.cps.toList):Txt.split (Str.join ⟨#[c]⟩ ps) ⟨#[c]⟩ = ps:=by
 refine qaa_ c (fun e => ?_) h0 (split_free _ c) h (join_split _ _)
 have:=(fact_split (Str.join ⟨#[c]⟩ ps) ⟨#[c]⟩).1
 rw [e] at this
 simp at this
noncomputable def figs (k:Nat):List Nat:=if k < 10 then [48 + k] else [49,38 + k]
theorem us_:∀ k,k < 11→(intS (k:Nat)).cps.toList = figs k:=by decide +kernel
theorem uas_:∀ j,j < 11→∀ k,k < 11→figs j = figs k→j = k:=by decide
theorem wam_:∀ k,k < 11→¬ 32 ∈ figs k ∧ ¬ 58 ∈ figs k ∧ ¬ 10 ∈ figs k:=by decide
theorem qas_ {j k:Nat} (hj:j < 11) (hk:k < 11) (h:intS (j:Nat) = intS (k:Nat)):j = k:=uas_ j hj k hk (by rw [← us_ j hj,← us_ k hk,h])
noncomputable def nbO (b:Nat) (w:Str):Option Nat:=(List.range b).find? fun k => decide (intS (k:Nat) = w)
theorem yz_ {b k:Nat} (hb:b ≤ 11) (hk:k < b):nbO b (intS (k:Nat)) = some k:=by
 unfold nbO
 rw [List.find?_eq_some_iff_append]
 refine ⟨by simp,List.range k,List.range' (k + 1) (b - k - 1),?_,fun j hj => ?_⟩
 · have:List.range b = List.range k ++ List.range' k (b - k):=by
     have q:=List.range'_append_1 (s:=0) (m:=k) (n:=b - k)
     rw [show k + (b - k) = b by omega,Nat.zero_add] at q
     rw [List.range_eq_range',List.range_eq_range']
     exact q.symm
   rw [this,show b - k = (b - k - 1) + 1 by omega,List.range'_succ]
   simp
 · have hj:=List.mem_range.mp hj
   simp only [Bool.not_eq_true',decide_eq_false_iff_not]
   exact fun e => by have:=qas_ (by omega) (by omega) e; omega
theorem xz_ {b k:Nat} {w:Str} (h:nbO b w = some k):k < b ∧ intS (k:Nat) = w:=by
 unfold nbO at h
 exact ⟨List.mem_range.mp (List.mem_of_find?_eq_some h),by simpa using List.find?_some h⟩
noncomputable abbrev Pr:=Int × Int
noncomputable def sp:Str:=⟨#[32]⟩
noncomputable def co:Str:=⟨#[58]⟩
noncomputable def nl:Str:=⟨#[10]⟩
noncomputable def zi_:Str:=Str.ofString "spots "
noncomputable def gtI (ls:List Pr) (s:Int):List Int:=(ls.filter fun p => decide (p.1 = s)).map (·.2)
noncomputable def rowS (s:Int) (xs:List Int):Str:=Str.join sp ((intS s ++ co) :: xs.map intS)
noncomputable def hdS (n:Int):Str:=zi_ ++ intS n
noncomputable def wh_ (n:Nat) (ls:List Pr):List Str:=(List.range n).filterMap fun (s:Nat) => if (gtI ls s).isEmpty = true then none else some (rowS s (gtI ls s))
noncomputable def txt (n:Nat) (ls:List Pr):Str:=Str.join nl (hdS n :: wh_ n ls)
noncomputable def In10 (x:Int):Prop:=0 ≤ x ∧ x < 10
theorem zl_ {x:Int} (h0:0 ≤ x) (h:x < 11):¬ 32 ∈ (intS x).cps.toList ∧ ¬ 58 ∈ (intS x).cps.toList ∧ ¬ 10 ∈ (intS x).cps.toList:=by
 obtain ⟨k,rfl⟩:∃ k:Nat,x = k:=⟨x.toNat,by omega⟩
 rw [us_ k (by omega)]
 exact wam_ k (by omega)
theorem jam_ {s:Int} {xs:List Int} (hs:In10 s) (hx:∀ x ∈ xs,In10 x):Txt.split (rowS s xs) sp = (intS s ++ co) :: xs.map intS:=by
 refine qo_ 32 (by simp) fun p hp => ?_
 rcases List.mem_cons.mp hp with rfl | hp
 · rw [ug_,List.mem_append]
   rintro (h | h)
   · exact (zl_ hs.1 (by have:=hs.2; omega)).1 h
   · simp [co] at h
 · obtain ⟨x,hx',rfl⟩:=List.mem_map.mp hp
   exact (zl_ (hx x hx').1 (by have:=(hx x hx').2; omega)).1
theorem qs_ {c d:Nat} (hcd:d ≠ c):∀ {ps:List Str},(∀ p ∈ ps,¬ d ∈ p.cps.toList)→¬ d ∈ (Str.join ⟨#[c]⟩ ps).cps.toList
 | [],_ => by
   show ¬ d ∈ (Str.empty).cps.toList
   simp [Str.empty]
 | [p],h => h p (by simp)
 | p :: q :: r,h => by
   rw [qv_,List.mem_append,List.mem_cons]
   rintro (z | z | z)
   · exact h p (by simp) z
   · exact hcd z
   · exact qs_ hcd (fun x hx => h x (by simp at hx ⊢; exact .inr hx)) z
theorem zat_ {s:Int} {xs:List Int} (hs:In10 s) (hx:∀ x ∈ xs,In10 x):¬ 10 ∈ (rowS s xs).cps.toList:=by
 refine qs_ (c:=32) (by decide) fun p hp => ?_
 rcases List.mem_cons.mp hp with rfl | hp
 · rw [ug_,List.mem_append]
   rintro (h | h)
   · exact (zl_ hs.1 (by have:=hs.2; omega)).2.2 h
   · simp [co] at h
 · obtain ⟨x,hx',rfl⟩:=List.mem_map.mp hp
   exact (zl_ (hx x hx').1 (by have:=(hx x hx').2; omega)).2.2
structure Wr (n:Nat) (ls:List Pr):Prop where
 n10:n ≤ 10
 ln:∀ p ∈ ls,0 ≤ p.1 ∧ p.1 < p.2 ∧ p.2 < n
 up:ls.Pairwise fun p q => p.1 < q.1 ∨ p.1 = q.1 ∧ p.2 < q.2
theorem Wr.gt10 {n:Nat} {ls:List Pr} (h:Wr n ls) (s:Int):∀ x ∈ gtI ls s,In10 x:=fun x hx => by
 obtain ⟨p,hp,rfl⟩:=List.mem_map.mp hx
 have:=h.ln p (List.mem_filter.mp hp).1
 have:=h.n10
 exact ⟨by omega,by omega⟩
theorem z4_ {n:Nat} {ls:List Pr} (h:Wr n ls) {r:Str} (hr:r ∈ wh_ n ls):∃ s:Nat,s < n ∧ r = rowS s (gtI ls s):=by
 obtain ⟨s,hs,e⟩:=List.mem_filterMap.mp hr
 split at e
 · cases e
 · cases e
   exact ⟨s,List.mem_range.mp hs,rfl⟩
theorem zab_ {n:Nat} {ls:List Pr} (h:Wr n ls):Txt.split (txt n ls) nl = hdS n :: wh_ n ls:=by
 have h10:=h.n10
 refine qo_ 10 (by simp) fun p hp => ?_
 rcases List.mem_cons.mp hp with rfl | hp
 · unfold hdS
   rw [ug_,List.mem_append]
   rintro (z | z)
   · revert z
     decide +kernel
   · exact (zl_ (x:=(n:Int)) (by omega) (by omega)).2.2 z
 · obtain ⟨s,hs,rfl⟩:=z4_ h hp
   exact zat_ ⟨by omega,by omega⟩ (h.gt10 s)
noncomputable def nbs (b:Nat):List Str→Option (List Int)
 | [] => some []
 | w :: ws => (nbO b w).bind fun k => (nbs b ws).map ((k:Int) :: ·)
theorem kam_ {b:Nat} (hb:b ≤ 11):∀ {xs:List Int},(∀ x ∈ xs,0 ≤ x ∧ x < b)→nbs b (xs.map intS) = some xs
 | [],_ => rfl
 | x :: xs,h => by
   obtain ⟨k,hk⟩:∃ k:Nat,x = k:=⟨x.toNat,by have:=(h x (by simp)).1; omega⟩
   have hx:=h x (by simp)
   subst hk
   show (nbO b (intS (k:Int))).bind _ = _
   rw [yz_ hb (by omega),Option.bind_some,kam_ hb (fun y hy => h y (by simp [hy]))]
   rfl
noncomputable def wn_ (n:Nat) (row:Str):Option (List Pr):=match Txt.split row sp with
 | [] => none
 | w :: ws => if Txt.endswith w co = true then (nbO n (Txt.slice w none (some (-1)))).bind fun s => (nbs n ws).map fun xs => xs.map fun x => ((s:Int),x) else none
theorem ybn_:∀ k,k < 10→Txt.endswith (intS (k:Nat) ++ co) co = true ∧ Txt.slice (intS (k:Nat) ++ co) none (some (-1)) = intS (k:Nat):=by decide +kernel
theorem vam_ {n:Nat} (hn:n ≤ 10) {s:Nat} (hs:s < n) {xs:List Int} (hx:∀ x ∈ xs,0 ≤ x ∧ x < n):wn_ n (rowS s xs) = some (xs.map fun x => ((s:Int),x)):=by
 unfold wn_
 rw [jam_ ⟨by omega,by omega⟩ fun x h => ⟨(hx x h).1,by have:=(hx x h).2; omega⟩]
 dsimp only
 obtain ⟨e1,e2⟩:=ybn_ s (by omega)
 rw [if_pos e1,e2,yz_ (by omega) hs,Option.bind_some,kam_ (by omega) hx]
 rfl
noncomputable def zg_ (n:Nat):List Str→Option (List Pr)
 | [] => some []
 | r :: rs => (wn_ n r).bind fun a => (zg_ n rs).map (a ++ ·)
theorem jax_ {α:Type} {lt:α→α→Prop} (ha:∀ x y,lt x y→¬ lt y x):∀ {a b:List α},a.Pairwise lt→b.Pairwise lt→(∀ x,x ∈ a ↔ x ∈ b)→a = b
 | [],[],_,_,_ => rfl
 | [],y :: b,_,_,h => by have:=(h y).mpr (by simp); simp at this
 | x :: a,[],_,_,h => by have:=(h x).mp (by simp); simp at this
 | x :: a,y :: b,pa,pb,h => by
   obtain ⟨a1,a2⟩:=List.pairwise_cons.mp pa
   obtain ⟨b1,b2⟩:=List.pairwise_cons.mp pb
   have e:x = y:=by
     rcases List.mem_cons.mp ((h x).mp (by simp)) with q | q
     · exact q
     · rcases List.mem_cons.mp ((h y).mpr (by simp)) with q2 | q2
       · exact q2.symm
       · exact absurd (b1 x q) (ha _ _ (a1 y q2))
   subst e
   rw [jax_ ha a2 b2 fun z => ⟨fun hz => ?_,fun hz => ?_⟩]
   · rcases List.mem_cons.mp ((h z).mp (by simp [hz])) with q | q
     · subst q; exact absurd (a1 z hz) (fun w => ha _ _ w w)
     · exact q
   · rcases List.mem_cons.mp ((h z).mpr (by simp [hz])) with q | q
     · subst q; exact absurd (b1 z hz) (fun w => ha _ _ w w)
     · exact q
theorem zbg_ {n:Nat} {ls:List Pr} (h:Wr n ls) (s:Int):(gtI ls s).Pairwise (· < ·):=by
 unfold gtI
 rw [List.pairwise_map]
 refine (List.Pairwise.filter _ h.up).imp_of_mem fun {p q} hp hq r => ?_
 have e1:=(List.mem_filter.mp hp).2
 have e2:=(List.mem_filter.mp hq).2
 simp at e1 e2
 omega
theorem ybg_ {n:Nat} {ls:List Pr} (h:Wr n ls):((List.range n).flatMap fun (s:Nat) => (gtI ls s).map fun x => ((s:Int),x)) = ls:=by
 refine jax_ (lt:=fun p q => p.1 < q.1 ∨ p.1 = q.1 ∧ p.2 < q.2) (fun x y a b => by omega) ?_ h.up fun p => ?_
 · rw [List.pairwise_flatMap]
   refine ⟨fun s _ => ?_,?_⟩
   · rw [List.pairwise_map]
     exact (zbg_ h s).imp fun r => .inr ⟨rfl,r⟩
   · refine (List.pairwise_lt_range).imp fun {a b} hab x hx y hy => ?_
     obtain ⟨u,_,rfl⟩:=List.mem_map.mp hx
     obtain ⟨v,_,rfl⟩:=List.mem_map.mp hy
     exact .inl (by show (a:Int) < b; omega)
 · rw [List.mem_flatMap]
   constructor
   · rintro ⟨s,_,hs⟩
     obtain ⟨x,hx,rfl⟩:=List.mem_map.mp hs
     obtain ⟨q,hq,rfl⟩:=List.mem_map.mp hx
     obtain ⟨h1,h2⟩:=List.mem_filter.mp hq
     simp at h2
     rw [← h2]
     exact h1
   · intro hp
     have:=h.ln p hp
     refine ⟨p.1.toNat,List.mem_range.mpr (by omega),List.mem_map.mpr ⟨p.2,List.mem_map.mpr ⟨p,List.mem_filter.mpr ⟨hp,by simp; omega⟩,rfl⟩,?_⟩⟩
     show ((p.1.toNat:Int),p.2) = p
     rw [show (p.1.toNat:Int) = p.1 by omega]
theorem uam_ {n:Nat} {ls:List Pr} (h:Wr n ls):zg_ n (wh_ n ls) = some ls:=by
 have key:∀ l:List Nat,(∀ s ∈ l,s < n)→zg_ n (l.filterMap fun (s:Nat) => if (gtI ls s).isEmpty = true then none else some (rowS s (gtI ls s))) = some (l.flatMap fun (s:Nat) => (gtI ls s).map fun x => ((s:Int),x)):=by
   intro l
   induction l with
   | nil => intro _; rfl
   | cons s l ih =>
     intro hl
     have ih:=ih fun x hx => hl x (by simp [hx])
     rw [List.filterMap_cons,List.flatMap_cons]
     cases q:gtI ls s with
     | nil => simpa using ih
     | cons x xs =>
       have hg:∀ y ∈ x :: xs,0 ≤ y ∧ y < n:=fun y hy => by
         rw [← q] at hy
         obtain ⟨p,hp,rfl⟩:=List.mem_map.mp hy
         have:=h.ln p (List.mem_filter.mp hp).1
         omega
       simp only [List.isEmpty_cons,Bool.false_eq_true,if_false]
       show (wn_ n (rowS s (x :: xs))).bind _ = _
       rw [vam_ h.n10 (hl s (by simp)) hg,Option.bind_some,ih]
       rfl
 have:=key (List.range n) fun s hs => List.mem_range.mp hs
 rw [ybg_ h] at this
 exact this
end FW
namespace FW
open DS FM
open PySem (Str sizeLine)
noncomputable def lnD (p:Ln):D:=.tup [.int p.1,.int p.2]
noncomputable abbrev L (ls:List Ln):List D:=ls.map lnD
noncomputable abbrev TL (lls:List (List Int)):List D:=lls.map fun l => .tup (I l)
noncomputable def wb (n:Int) (lls:List (List Int)):D:=.tup [.int n,.lst (TL lls)]
noncomputable def web (n:Int) (ls:List Ln):D:=.tup [.int n,.lst (L ls)]
noncomputable def ue_ {α:Type} (lt:α→α→Bool):List α→Bool
 | x :: y :: r => lt x y && ue_ lt (y :: r)
 | _ => true
theorem vp_ {α:Type} (lt:α→α→Bool) (d:α):∀ xs:List α,((List.range (xs.length - 1)).all fun k => lt (xs.getD k d) (xs.getD (k + 1) d)) = ue_ lt xs
 | [] => rfl
 | [_] => rfl
 | x :: y :: r => by
   have ih:=vp_ lt d (y :: r)
   rw [ue_,← ih]
   simp only [List.length_cons,Nat.add_sub_cancel]
   rw [List.range_succ_eq_map,List.all_cons,List.all_map]
   rfl
theorem zw_ {c:D} {xs:List D} (hc:c = .lst xs ∨ c = .tup xs) (lt:D→D→Bool) (h:∀ x ∈ xs,∀ y ∈ xs,ltF x y = some (.bl (lt x y))) (hl:xs.length ≤ sizeLine):jm_ [c] = some (.ok (.bl (ue_ lt xs))):=by
 have hlen:lenF [c] = some (.int xs.length):=by rcases hc with rfl | rfl <;> rfl
 have hix:∀ i,ixD c (.int i) = atI xs i:=by intro i; rcases hc with rfl | rfl <;> rfl
 have hz:=kc_
 unfold jm_
 rw [vi_]
 simp! only []
 rw [vh_ (fun d => match d with | .int k => .bl (lt (xs.getD k.toNat .non) (xs.getD (k.toNat + 1) .non)) | _ => .non) (ds:=rng 0 (xs.length - 1)) ?a ?b ?h ?c]
 case h => rfl
 case a =>
   have e:rg1 [.int ((xs.length:Int) - 1)] = some (rng 0 (xs.length - 1)):=by
     rw [rg1,if_pos (zk_.mpr (by omega))]
   simp! only [hlen,e]
 case b => unfold rng; simp; omega
 case c =>
   intro d hd
   unfold rng at hd
   obtain ⟨k,hk,rfl⟩:=List.mem_map.mp hd
   have hk':=List.mem_range.mp hk
   have h1:k < xs.length:=by omega
   have h2:k + 1 < xs.length:=by omega
   have a2:atI xs ((k:Int) + 1) = some xs[k + 1]:=atI_get h2
   simp! only [hix,Int.zero_add,atI_get h1,a2,h _ (List.getElem_mem h1) _ (List.getElem_mem h2)]
   simp [h1,h2]
 simp! only []
 have e:(rng 0 ((xs.length:Int) - 1)).map (fun d => match d with | .int k => D.bl (lt (xs.getD k.toNat .non) (xs.getD (k.toNat + 1) .non)) | _ => .non) = (List.range (xs.length - 1)).map fun k => .bl (lt (xs.getD k .non) (xs.getD (k + 1) .non)):=by
   unfold rng
   rw [List.map_map,show ((xs.length:Int) - 1 - 0).toNat = xs.length - 1 by omega]
   refine List.map_congr_left fun k _ => ?_
   simp
 rw [e,vq_,vp_]
 rfl
theorem zp_ {α β:Type} (lt:β→β→Bool) (f:α→β):∀ xs:List α,ue_ lt (xs.map f) = ue_ (fun a b => lt (f a) (f b)) xs
 | [] => rfl
 | [_] => rfl
 | x :: y :: r => by
   have ih:=zp_ lt f (y :: r)
   simp only [List.map_cons] at ih ⊢
   rw [ue_,ue_,ih]
noncomputable def ltB:D→D→Bool
 | .int a,.int b => decide (a < b)
 | .tup a,.tup b => match qg_ a,qg_ b with
   | some x,some y => lexLt x y
   | _,_ => false
 | _,_ => false
noncomputable def rise (m:List Int):Bool:=ue_ (fun a b => decide (a < b)) m
theorem qam_ {m:List Int} (h:m.length ≤ sizeLine):jm_ [.tup (I m)] = some (.ok (.bl (rise m))):=by
 rw [zw_ (.inr rfl) ltB (fun x hx y hy => ?_) (by simpa using h),zp_]
 · rfl
 · obtain ⟨a,_,rfl⟩:=List.mem_map.mp hx
   obtain ⟨b,_,rfl⟩:=List.mem_map.mp hy
   rfl
theorem qae_ {lls:List (List Int)} (h:lls.length ≤ sizeLine):jm_ [.lst (TL lls)] = some (.ok (.bl (ue_ lexLt lls))):=by
 have e:∀ a b:List Int,ltB (.tup (I a)) (.tup (I b)) = lexLt a b:=fun a b => by simp only [ltB,kv_]
 rw [zw_ (.inl rfl) ltB (fun x hx y hy => ?_) (by simpa using h),zp_]
 · simp only [e]
 · obtain ⟨a,_,rfl⟩:=List.mem_map.mp hx
   obtain ⟨b,_,rfl⟩:=List.mem_map.mp hy
   rw [e,ltT]
noncomputable def inB (n x:Int):Bool:=decide (0 ≤ x) && decide (x < n)
noncomputable def zaf_ (n:Int) (m:List Int):Bool:=rise m && m.all (inB n)
noncomputable def yi_ (n:Int) (l:List Int):Bool:=decide (l.length = 2) && zaf_ n l
noncomputable def yj_ (n:Int) (lls:List (List Int)):Bool:=decide (0 ≤ n) && decide (n ≤ 10) && lls.all (yi_ n) && ue_ lexLt lls
theorem y8_ {n:Int} {m:List Int} (h:m.length ≤ sizeLine):uq_ [.int n,.tup (I m)] = some (.ok (.bl (zaf_ n m))):=by
 unfold uq_
 rw [ym_]
 simp! only [qam_ h]
 cases q:rise m with
 | false => simp! only [zaf_,q]; rfl
 | true =>
   simp! only []
   rw [vh_ (fun d => match d with | .int x => .bl (inB n x) | _ => .non) (ds:=I m) ?a ?b ?h ?c]
   case h => rfl
   case a => simp! only []
   case b => simpa using h
   case c =>
     intro d hd
     obtain ⟨x,_,rfl⟩:=List.mem_map.mp hd
     by_cases h0:0 ≤ x
     · simp! only [h0,inB,Bool.true_and]
     · simp! only [h0,inB,Bool.false_and]
   have e:(I m).map (fun d => match d with | .int x => D.bl (inB n x) | _ => .non) = m.map fun x => .bl (inB n x):=by
     rw [List.map_map]; rfl
   simp! only [e,vq_,zaf_,q,Bool.true_and]
theorem y4_ {n:Int} {l:List Int} (h:l.length ≤ sizeLine):xk_ [.int n,.tup (I l)] = some (.ok (.bl (yi_ n l))):=by
 unfold xk_
 rw [ym_]
 simp! only [List.length_map,y8_ h]
 by_cases q:l.length = 2
 · have q':(l.length:Int) = 2:=by omega
   simp! only [q',yi_,q,Bool.true_and,Int.cast_ofNat_Int]
 · have q':¬ (l.length:Int) = 2:=by omega
   simp! only [q',yi_,q,Bool.false_and]
theorem jn_ {n:Int} {lls:List (List Int)} (h:lls.length ≤ sizeLine) (hl:∀ l ∈ lls,l.length ≤ sizeLine) :
   wf_ [wb n lls] = some (if yj_ n lls = true then .ok .non else .er "BadWeb"):=by
 unfold wf_ wb
 rw [vi_]
 have e:(TL lls).map (fun d => match d with | .tup l => D.bl (yi_ n ((qg_ l).getD [])) | _ => .non) = lls.map fun l => .bl (yi_ n l):=by
   rw [List.map_map]
   refine List.map_congr_left fun l _ => ?_
   simp only [Function.comp,kv_,Option.getD_some]
 have comp:∀ ρ:Rho,ρ = [Sl.sh (D.tup [D.int n,D.lst (TL lls)]),Sl.sh (D.int n),Sl.sh (D.lst (TL lls))] →
     yf_ (itE (vr 2)) (Tg.nm 3) 1 yes (cal xk_ (ya_ (vr 1) (ya_ (vr 3) nilA))) ρ = some (ρ,.ok (.lst (lls.map fun l => .bl (yi_ n l)))):=by
   rintro ρ rfl
   rw [vh_ (fun d => match d with | .tup l => .bl (yi_ n ((qg_ l).getD [])) | _ => .non) (ds:=TL lls) ?a ?b ?h ?c,e]
   case h => rfl
   case a => simp! only []
   case b => simpa using h
   case c =>
     intro d hd
     obtain ⟨l,hm,rfl⟩:=List.mem_map.mp hd
     simp! only [y4_ (hl l hm),kv_,Option.getD_some]
 simp! only [List.length_cons,List.length_nil,Nat.reduceAdd,Int.cast_ofNat_Int]
 by_cases h0:0 ≤ n
 · by_cases h1:n ≤ 10
   · simp! only [h0,h1,comp _ rfl,vq_]
     cases q:lls.all (yi_ n) with
     | false => simp! only [yj_,q,Bool.and_false,Bool.false_and]
     | true =>
       simp! only [qae_ h]
       cases q2:ue_ lexLt lls with
       | false => simp! only [yj_,q,q2,Bool.and_false,Bool.false_and]
       | true => simp! only [yj_,q,q2,h0,h1,Bool.and_true]
   · simp! only [h0,h1,yj_,Bool.and_false,Bool.false_and]
 · simp! only [h0,yj_,Bool.and_false,Bool.false_and]
structure GW (n:Int) (ls:List Ln):Prop where
 n0:0 ≤ n
 n7:n ≤ 7
 good:Good n ls
 rise:ls.Pairwise jp_
 len:ls.length ≤ 100
noncomputable def pr (p:Ln):List Int:=[p.1,p.2]
theorem xbn_ (ls:List Ln):TL (ls.map pr) = L ls:=by
 show (ls.map pr).map _ = _
 rw [List.map_map]; rfl
theorem kax_ (n:Int) (ls:List Ln):web n ls = wb n (ls.map pr):=by unfold web wb; rw [xbn_]
theorem yab_ (p q:Ln):lexLt (pr p) (pr q) = true ↔ jp_ p q:=by
 unfold pr jp_
 simp only [lexLt]
 by_cases h1:p.1 = q.1
 · by_cases h2:p.2 = q.2 <;> simp [h1,h2]
 · simp [h1]
theorem wz_:∀ {ls:List Ln},ls.Pairwise jp_→ue_ lexLt (ls.map pr) = true
 | [],_ => rfl
 | [_],_ => rfl
 | p :: q :: r,h => by
   have ih:=wz_ (ls:=q :: r) (List.pairwise_cons.mp h).2
   simp only [List.map_cons] at ih ⊢
   rw [ue_,Bool.and_eq_true]
   exact ⟨(yab_ p q).mpr ((List.pairwise_cons.mp h).1 q (by simp)),ih⟩
theorem x4_ {n:Int} {p:Ln} (h:0 ≤ p.1 ∧ p.1 < p.2 ∧ p.2 < n):yi_ n (pr p) = true:=by
 obtain ⟨h1,h2,h3⟩:=h
 unfold yi_ zaf_ pr
 simp only [rise,ue_,inB,List.length_cons,List.length_nil,List.all_cons,List.all_nil,Bool.and_true,Bool.and_eq_true,decide_eq_true_eq]
 exact ⟨trivial,h2,⟨h1,by omega⟩,by omega,h3⟩
theorem GW.ok {n:Int} {ls:List Ln} (g:GW n ls):yj_ n (ls.map pr) = true:=by
 unfold yj_
 have h1:(ls.map pr).all (yi_ n) = true:=by
   rw [List.all_map,List.all_eq_true]
   exact fun p hp => x4_ (g.good p hp)
 have:=g.n0
 have:=g.n7
 rw [h1,wz_ g.rise]
 simp; omega
theorem vax_ {ls:List Ln}:∀ l ∈ ls.map pr,l.length ≤ sizeLine:=fun l hl => by
 obtain ⟨p,_,rfl⟩:=List.mem_map.mp hl
 have:=kc_
 simp [pr]; omega
theorem jz_ (s:List Int) (k:Int):∃ v,qk_ [.lst (I s),.int k] = some (.ok (.int v)):=by
 unfold qk_
 rw [ym_]
 cases s with
 | nil => exact ⟨0,by simp! only [List.isEmpty_nil]⟩
 | cons x s =>
   have hp:(0:Int) < ((I (x :: s)).length:Int):=by simp only [List.length_map,List.length_cons]; omega
   have h1:0 ≤ k % ((I (x :: s)).length:Int):=Int.emod_nonneg _ (by omega)
   have h2:k % ((I (x :: s)).length:Int) < ((I (x :: s)).length:Int):=Int.emod_lt_of_pos _ hp
   obtain ⟨j,hj⟩:∃ j:Nat,k % ((I (x :: s)).length:Int) = j:=⟨(k % ((I (x :: s)).length:Int)).toNat,by omega⟩
   have hj2:j < (I (x :: s)).length:=by omega
   have e:=atI_get hj2
   refine ⟨(x :: s)[j]'(by simpa using hj2),?_⟩
   have e3:modD (.int k) (.int ((I (x :: s)).length:Int)) = some (.int (j:Int)):=by rw [modI k hp,hj]
   have e4:(!(I (x :: s)).isEmpty) = true:=rfl
   simp only [wa2_,kar_,qaw_,kaw_,ybb_,List.getElem?_cons_zero,List.getElem?_cons_succ,trL,e4,jaw_,ubc_,ja2_,vaw_,uaw_,zaa_,kaj_,waw_,lenL,e3,ixL,e,outc]
   rw [List.getElem_map]
theorem we_ (s:List Int) (k:Int):∃ v:Int,uc_ [.lst (I s),.int k] = some (.ok (.int v)) ∧ 0 ≤ v ∧ v < 4294967231:=by
 obtain ⟨c,hc⟩:=jz_ s k
 refine ⟨(((c + 104729 * (k + 1)) % 4294967291 * 48271 % 4294967279) / 64 * 69621 + (c + 104729 * (k + 1)) % 4294967291 * 48271 % 4294967279) % 4294967231,?_,Int.emod_nonneg _ (by omega),Int.emod_lt_of_pos _ (by omega)⟩
 unfold uc_
 rw [ym_]
 simp! only [hc,mulK,zbd_,fdvI,modI,Int.reduceLT,Int.reduceNeg,Bool.and_true]
structure LW (n:Int) (one other:Int) (acc:List Ln):Prop where
 good:Good n acc
 rise:acc.Pairwise jp_
 below:∀ p ∈ acc,p.1 < one ∨ (p.1 = one ∧ p.2 < other)
theorem LW.next {n one other:Int} {acc:List Ln} (h:LW n one other acc):LW n one (other + 1) acc:=⟨h.good,h.rise,fun p hp => by have:=h.below p hp; omega⟩
theorem LW.add {n one other:Int} {acc:List Ln} (h:LW n one other acc) (h0:0 ≤ one) (h1:one < other) (h2:other < n):LW n one (other + 1) (acc ++ [(one,other)]):=by
 refine ⟨fun p hp => ?_,?_,fun p hp => ?_⟩
 · rcases List.mem_append.mp hp with q | q
   · exact h.good p q
   · rw [List.mem_singleton] at q; subst q; exact ⟨h0,h1,h2⟩
 · rw [List.pairwise_append]
   refine ⟨h.rise,by simp,fun p hp q hq => ?_⟩
   rw [List.mem_singleton] at hq; subst hq
   exact h.below p hp
 · rcases List.mem_append.mp hp with q | q
   · have:=h.below p q; omega
   · rw [List.mem_singleton] at q; subst q; exact .inr ⟨rfl,by show other < other + 1; omega⟩
theorem LW.row {n one other:Int} {acc:List Ln} (h:LW n one other acc):LW n (one + 1) 0 acc:=⟨h.good,h.rise,fun p hp => by rcases h.below p hp with q | ⟨q,q'⟩ <;> exact .inl (by omega)⟩
noncomputable abbrev bWeb:FS:=(sq (sA (.nm 8) (op2 fdvD (cal uc_ (ya_ (vr 0) (ya_ (op2 addD (op2 addD (op2 addD (vr 1) (cst (.int 2))) (op2 mulD (cst (.int 8)) (vr 6))) (vr 7)) (nilA)))) (cst (.int 8)))) (sq (sA (.nm 9) (orV (andV (op2 eqF (vr 4) (cst (.int 0))) (op2 eqF (vr 7) (op2 addD (vr 6) (cst (.int 1))))) (andV (op2 eqF (vr 4) (cst (.int 1))) (op2 eqF (vr 6) (op2 modD (vr 8) (vr 7)))))) (sI (orT (tst (vr 9)) (andT (tsB (op2 gtF (vr 4) (cst (.int 1)))) (tsB (op2 ltF (op2 modD (vr 8) (cst (.int 6))) (vr 4))))) (sP 5 (tupE (ya_ (vr 6) (ya_ (vr 7) (nilA))))) (sNx))))
theorem yat_ (s:List Int) (k most n way one other:Int) (acc:List Ln) (t8 t9:Sl) (ho:0 ≤ one) (h1:one < other) (ha:acc.length < 1000) :
   ∃ (t8' t9':Sl) (acc':List Ln),(acc' = acc ∨ acc' = acc ++ [(one,other)]) ∧
     bWeb [.sh (.lst (I s)),.sh (.int k),.sh (.int most),.sh (.int n),.sh (.int way),.ow (L acc),.sh (.int one),.sh (.int other),t8,t9] =
       some ([.sh (.lst (I s)),.sh (.int k),.sh (.int most),.sh (.int n),.sh (.int way),.ow (L acc'),.sh (.int one),.sh (.int other),t8',t9'],.nx):=by
 have hz:=kc_
 have hlen:(L acc).length < sizeLine:=by simp; omega
 obtain ⟨v,hv,v0,v1⟩:=we_ s (k + 2 + 8 * one + other)
 have hpos:0 < other:=by omega
 refine ⟨.sh (.int (v / 8)),?_⟩
 have road:∀ ρ:Rho,ρ = [.sh (.lst (I s)),.sh (.int k),.sh (.int most),.sh (.int n),.sh (.int way),.ow (L acc),.sh (.int one),.sh (.int other),.sh (.int (v / 8)),t9]→∃ b,(orV (andV (op2 eqF (vr 4) (cst (.int 0))) (op2 eqF (vr 7) (op2 addD (vr 6) (cst (.int 1))))) (andV (op2 eqF (vr 4) (cst (.int 1))) (op2 eqF (vr 6) (op2 modD (vr 8) (vr 7))))) ρ = some (ρ,.ok (.bl b)):=by
   rintro ρ rfl
   refine ⟨(decide (way = 0) && decide (other = one + 1)) || (decide (way = 1) && decide (one = v / 8 % other)),?_⟩
   by_cases q0:way = 0
   · by_cases q1:other = one + 1
     · simp! only [modI _ hpos,q0,q1,Bool.and_true,Bool.true_or]
     · have q2:¬ (0:Int) = 1:=by omega
       simp! only [modI _ hpos,q0,q1,q2,Bool.and_false,Bool.false_or,Bool.false_and]
   · by_cases q1:way = 1
     · simp! only [modI _ hpos,q0,q1,Bool.and_false,Bool.false_or,Bool.false_and,Bool.true_and,Int.reduceEq]
     · simp! only [modI _ hpos,q0,q1,Bool.and_false,Bool.false_or,Bool.false_and,Bool.true_and]
 obtain ⟨b,hb⟩:=road _ rfl
 refine ⟨.sh (.bl b),?_⟩
 have test:∀ ρ:Rho,ρ = [.sh (.lst (I s)),.sh (.int k),.sh (.int most),.sh (.int n),.sh (.int way),.ow (L acc),.sh (.int one),.sh (.int other),.sh (.int (v / 8)),.sh (.bl b)]→∃ c,(orT (tst (vr 9)) (andT (tsB (op2 gtF (vr 4) (cst (.int 1)))) (tsB (op2 ltF (op2 modD (vr 8) (cst (.int 6))) (vr 4))))) ρ = some (ρ,.ok c):=by
   rintro ρ rfl
   cases b with
   | true => exact ⟨true,by simp! only []⟩
   | false =>
     by_cases q:1 < way
     · exact ⟨decide (v / 8 % 6 < way),by simp! only [q,modI,Int.reduceLT]⟩
     · exact ⟨false,by simp! only [q]⟩
 obtain ⟨c,hc⟩:=test _ rfl
 have e1:(sA (.nm 8) (op2 fdvD (cal uc_ (ya_ (vr 0) (ya_ (op2 addD (op2 addD (op2 addD (vr 1) (cst (.int 2))) (op2 mulD (cst (.int 8)) (vr 6))) (vr 7)) (nilA)))) (cst (.int 8)))) [.sh (.lst (I s)),.sh (.int k),.sh (.int most),.sh (.int n),.sh (.int way),.ow (L acc),.sh (.int one),.sh (.int other),t8,t9] = some ([.sh (.lst (I s)),.sh (.int k),.sh (.int most),.sh (.int n),.sh (.int way),.ow (L acc),.sh (.int one),.sh (.int other),.sh (.int (v / 8)),t9],.nx):=by
   simp! only [hv,zbd_,fdvI,Int.reduceLT,Int.reduceNeg,Bool.and_true]
 unfold bWeb
 rw [xy_ e1,xy_ (ybl_ hb)]
 simp only [List.set_cons_zero,List.set_cons_succ]
 cases c with
 | true =>
   refine ⟨acc ++ [(one,other)],.inr rfl,?_⟩
   rw [sI_t hc]
   simp! only [hlen,List.map_append,lnD]
 | false =>
   refine ⟨acc,.inl rfl,?_⟩
   rw [sI_f hc]
   rfl
theorem xab_ {i j:Int} (h:i < j):rng i j = .int i :: rng (i + 1) j:=by
 unfold rng
 obtain ⟨m,hm⟩:∃ m:Nat,(j - i).toNat = m + 1:=⟨(j - i).toNat - 1,by omega⟩
 rw [hm,show (j - (i + 1)).toNat = m by omega,List.range_succ_eq_map,List.map_cons,List.map_map]
 congr 1
 · simp
 · refine List.map_congr_left fun k _ => ?_
   simp only [Function.comp]
   congr 1
   omega
theorem kz_ {i j:Int} (h:j ≤ i):rng i j = []:=by
 unfold rng
 rw [show (j - i).toNat = 0 by omega]; rfl
theorem ua5_ (s:List Int) (k most n way one:Int) (ho:0 ≤ one):∀ (m:Nat) (other:Int) (acc:List Ln) (t7 t8 t9:Sl),n - other ≤ m→one < other→LW n one other acc→acc.length + m < 1000 →
   ∃ (t7' t8' t9':Sl) (acc':List Ln),LW n (one + 1) 0 acc' ∧ acc'.length ≤ acc.length + m ∧
     forL (.nm 7) bWeb (rng other n) [.sh (.lst (I s)),.sh (.int k),.sh (.int most),.sh (.int n),.sh (.int way),.ow (L acc),.sh (.int one),t7,t8,t9] =
       some ([.sh (.lst (I s)),.sh (.int k),.sh (.int most),.sh (.int n),.sh (.int way),.ow (L acc'),.sh (.int one),t7',t8',t9'],.nx):=by
 intro m
 induction m with
 | zero =>
   intro other acc t7 t8 t9 hm h1 hl ha
   rw [kz_ (by omega),zn_]
   exact ⟨t7,t8,t9,acc,hl.row,by omega,rfl⟩
 | succ m ih =>
   intro other acc t7 t8 t9 hm h1 hl ha
   by_cases hlt:other < n
   · rw [xab_ hlt]
     obtain ⟨u8,u9,acc1,hacc,e⟩:=yat_ s k most n way one other acc t8 t9 ho h1 (by omega)
     rw [yd_ e]
     have hl1:LW n one (other + 1) acc1:=by
       rcases hacc with rfl | rfl
       · exact hl.next
       · exact hl.add ho h1 hlt
     have hlen:acc1.length ≤ acc.length + 1:=by rcases hacc with rfl | rfl <;> simp
     obtain ⟨t7',t8',t9',acc',r1,r2,r3⟩:=ih (other + 1) acc1 (.sh (.int other)) u8 u9 (by omega) (by omega) hl1 (by omega)
     exact ⟨t7',t8',t9',acc',r1,by omega,r3⟩
   · rw [kz_ (by omega),zn_]
     exact ⟨t7,t8,t9,acc,hl.row,by omega,rfl⟩
theorem xat_ (s:List Int) (k most n way:Int) (hn:n ≤ 7) (b:FS) (hb:b = (sF (itR2 (ya_ (op2 addD (vr 6) (cst (.int 1))) (ya_ (vr 3) (nilA)))) (.nm 7) bWeb)):∀ (m:Nat) (one:Int) (acc:List Ln) (t6 t7 t8 t9:Sl),n - one ≤ m→m ≤ 7→0 ≤ one→LW n one 0 acc→acc.length + 7 * m ≤ 49 →
   ∃ (t6' t7' t8' t9':Sl) (acc':List Ln),Good n acc' ∧ acc'.Pairwise jp_ ∧ acc'.length ≤ 49 ∧
     forL (.nm 6) b (rng one n) [.sh (.lst (I s)),.sh (.int k),.sh (.int most),.sh (.int n),.sh (.int way),.ow (L acc),t6,t7,t8,t9] =
       some ([.sh (.lst (I s)),.sh (.int k),.sh (.int most),.sh (.int n),.sh (.int way),.ow (L acc'),t6',t7',t8',t9'],.nx):=by
 intro m
 induction m with
 | zero =>
   intro one acc t6 t7 t8 t9 hm hm7 h1 hl ha
   rw [kz_ (by omega),zn_]
   exact ⟨t6,t7,t8,t9,acc,hl.good,hl.rise,by omega,rfl⟩
 | succ m ih =>
   intro one acc t6 t7 t8 t9 hm hm7 h1 hl ha
   by_cases hlt:one < n
   · rw [xab_ hlt]
     have hl0:LW n one (one + 1) acc:=⟨hl.good,hl.rise,fun p hp => by have:=hl.below p hp; omega⟩
     obtain ⟨u7,u8,u9,acc1,r1,r2,r3⟩:=ua5_ s k most n way one h1 7 (one + 1) acc t7 t8 t9 (by omega) (by omega) hl0 (by omega)
     have e:b ([Sl.sh (.lst (I s)),.sh (.int k),.sh (.int most),.sh (.int n),.sh (.int way),.ow (L acc),t6,t7,t8,t9].set 6 (.sh (.int one))) = some ([.sh (.lst (I s)),.sh (.int k),.sh (.int most),.sh (.int n),.sh (.int way),.ow (L acc1),.sh (.int one),u7,u8,u9],.nx):=by
       rw [hb]
       simp! only [ybd_ (i:=one + 1) (j:=n) (by omega) (by omega) (by omega) (by omega),r3]
     rw [yd_ e]
     exact ih (one + 1) acc1 (.sh (.int one)) u7 u8 u9 (by omega) (by omega) (by omega) r1 (by omega)
   · rw [kz_ (by omega),zn_]
     exact ⟨t6,t7,t8,t9,acc,hl.good,hl.rise,by omega,rfl⟩
theorem w4_ (s:List Int) (k most:Int) (h0:0 ≤ most) (h7:most ≤ 7):∃ n ls,xn_ [.lst (I s),.int k,.int most] = some (.ok (web n ls)) ∧ GW n ls ∧ n ≤ most:=by
 obtain ⟨v,hv,v0,v1⟩:=we_ s k
 obtain ⟨u,hu,u0,u1⟩:=we_ s (k + 1)
 have hp:0 < most + 1:=by omega
 have n0:0 ≤ v % (most + 1):=Int.emod_nonneg _ (by omega)
 have n1:v % (most + 1) < most + 1:=Int.emod_lt_of_pos _ hp
 have lw0:LW (v % (most + 1)) 0 0 []:=⟨fun p hp => by simp at hp,by simp,fun p hp => by simp at hp⟩
 obtain ⟨t6,t7,t8,t9,acc,g,rs,len,r⟩:=xat_ s k most (v % (most + 1)) (u % 5) (by omega) _ rfl 7 0 [] .un .un .un .un (by omega) (by omega) (by omega) lw0 (by simp)
 refine ⟨v % (most + 1),acc,?_,⟨n0,by omega,g,rs,by omega⟩,by omega⟩
 have hnil:([]:List D).length ≤ sizeLine:=by simp
 rw [show L [] = ([]:List D) from rfl] at r
 have hr1:=x2_ (j:=v % (most + 1)) n0 (by omega)
 unfold xn_
 rw [va2_]
 unfold bWeb at r
 simp! only [hv,hu,modI _ hp,modI,Int.reduceLT,hnil,hr1,r]
 rfl
theorem qa5_ (p:Ln):∃ n,dep (lnD p) = some n ∧ n ≤ 1:=by
 unfold lnD
 refine jaj_ (k:=0) fun d hd => ?_
 simp at hd
 rcases hd with rfl | rfl <;> exact ⟨0,by simp [dep],by omega⟩
theorem wbn_ (ls:List Ln):∃ n,dep (.lst (L ls)) = some n ∧ n ≤ 2:=k7_ (k:=1) fun d hd => by
 obtain ⟨p,_,rfl⟩:=List.mem_map.mp hd
 exact qa5_ p
theorem za6_:(clss.contains "BadWeb" && sup "BadWeb" "MarkError") = true:=rfl
theorem ya6_ (n:String):isN (.exc n) = some (.bl false):=rfl
theorem xa6_ (n d k:Nat):sIx n d (some (k:Int)) = min k n:=by
 show (if (k:Int) < 0 then (max ((k:Int) + (n:Int)) 0).toNat else (min (k:Int) (n:Int)).toNat) = _
 rw [if_neg (by omega)]
 omega
theorem zr_ {α:Type} (xs:List α) (k:Nat) (h:k ≤ xs.length):cut xs (some (k:Int)) none = xs.drop k:=by
 unfold cut
 rw [xa6_,show sIx xs.length xs.length none = xs.length from rfl,Nat.min_eq_left h]
 rw [List.take_of_length_le (by simp)]
theorem atI3 {α:Type} {a b c:α} (P:α→Prop) (k:Int) (h0:0 ≤ k) (h5:k < 3) (ha:P a) (hb:P b) (hc:P c):∃ x,atI [a,b,c] k = some x ∧ P x:=by
 rcases (by omega:k = 0 ∨ k = 1 ∨ k = 2) with rfl | rfl | rfl
 · exact ⟨a,rfl,ha⟩
 · exact ⟨b,rfl,hb⟩
 · exact ⟨c,rfl,hc⟩
theorem wat_ {d:D} {k:Nat} (h:∃ n,dep d = some n ∧ n ≤ k) (hk:k ≤ 20):eqF d d = some (.bl true):=by
 unfold eqF
 rw [if_pos (by rw [kf_ h hk]; rfl)]
 obtain ⟨n,h1,_⟩:=h
 rw [qm_ d (by rw [h1]; rfl)]
theorem jat_ {d:D} {k:Nat} (h:∃ n,dep d = some n ∧ n ≤ k) (hk:k ≤ 20):neF d d = some (.bl false):=by
 unfold neF
 rw [if_pos (by rw [kf_ h hk]; rfl)]
 obtain ⟨n,h1,_⟩:=h
 rw [qm_ d (by rw [h1]; rfl)]
 rfl
theorem zan_ (n:Int) (ls:List Ln):∃ k,dep (web n ls) = some k ∧ k ≤ 3:=jaj_ fun d hd => by
 simp at hd
 rcases hd with rfl | rfl
 · exact ⟨0,by simp [dep],by omega⟩
 · exact wbn_ ls
end FW
namespace FW
open DS FM PySem.StrLaws
open PySem (Str sizeLine)
section
variable {a b:M D} {as:M (List D)} {ρ:Rho} {f:D→D→Option D} {lo hi:Option (M D)}
theorem yan_:fsE as ρ = bnd as (fun xs => lft ((strz xs).bind fun ys => if (ys.map (·.length)).sum ≤ lim then some (.str (ys.foldl (· ++ ·) Str.empty)) else none)) ρ:=rfl
theorem wc_:opS f a b ρ = bnd a (fun x => bnd (lft (asS x)) fun _ => bnd b fun y => lft (f x y)) ρ:=rfl
theorem wd_:slSE a lo hi ρ = bnd a (fun x => bnd (part lo) fun l => bnd (part hi) fun h => lft (slS x l h)) ρ:=rfl
theorem xbg_:itS a ρ = bnd a (fun x => lft ((asS x).bind fun s => if s.length ≤ lim then some (ut_ s) else none)) ρ:=rfl
end
theorem kd_ (x:Str):asS (.str x) = some x:=rfl
theorem wa6_ {i:Int} (h:jv_ i = true):fmtD (.int i) = some (.str (intS i)):=if_pos h
theorem jbn_ {x:Str} (h:x.length ≤ lim):fmtD (.str x) = some (.str x):=if_pos h
theorem yw_ {i:Int} (h:jv_ i = true):strF [.int i] = some (.str (intS i)):=if_pos h
theorem km_ {i:Int} (h0:0 ≤ i) (h:i < 11):jv_ i = true:=zk_.mpr (by omega)
theorem wab_:∀ ys:List Str,strz (ys.map D.str) = some ys
 | [] => rfl
 | y :: ys => by
   show (asS (.str y)).bind _ = _
   rw [kd_,Option.bind_some,show strz (List.map D.str ys) = some ys from wab_ ys]; rfl
theorem kat_:∀ k,k < 11→(intS (k:Nat)).length ≤ 2:=by decide +kernel
theorem ve_ {x:Int} (h0:0 ≤ x) (h:x < 11):(intS x).length ≤ 2:=by
 obtain ⟨k,rfl⟩:∃ k:Nat,x = k:=⟨x.toNat,by omega⟩
 exact kat_ k (by omega)
theorem qc_ (x y:Str):(x ++ y).length = x.length + y.length:=by
 show (x.cps ++ y.cps).size = _
 simp; rfl
theorem qe_:lim = 100000:=rfl
theorem j4_ {B:Nat}:∀ (ys:List Str),(∀ y ∈ ys,y.length ≤ B)→(ys.map (·.length)).sum ≤ B * ys.length
 | [],_ => by simp
 | y :: ys,h => by
   have:=j4_ ys fun z hz => h z (by simp [hz])
   have:=h y (by simp)
   simp only [List.map_cons,List.sum_cons,List.length_cons]
   rw [Nat.mul_succ]; omega
theorem kn_ {x:Str} {ys:List Str} {d:D} (hd:d = .lst (ys.map D.str)) (h:(ys.map (·.length)).sum + ys.length * x.length ≤ lim):q1_ (.str x) d = some (.str (Str.join x ys)):=by
 subst hd
 show (strz (ys.map D.str)).bind _ = _
 rw [wab_,Option.bind_some,if_pos h]
theorem yp_:∀ ys:List Str,(Str.join Str.empty ys).cps.toList = ys.flatMap fun y => y.cps.toList
 | [] => rfl
 | [y] => by simp [Str.join]
 | y :: z :: ys => by
   have ih:=yp_ (z :: ys)
   rw [qq_,ug_,ug_,ih]
   simp [Str.empty]
theorem wbg_ (s:Int):∀ xs:List Int,(rowS s xs).cps.toList = (intS s).cps.toList ++ 58 :: xs.flatMap fun x => 32 :: (intS x).cps.toList:=by
 have key:∀ (w:Str) (xs:List Int),(Str.join sp (w :: xs.map intS)).cps.toList = w.cps.toList ++ xs.flatMap fun x => 32 :: (intS x).cps.toList:=by
   intro w xs
   induction xs generalizing w with
   | nil => simp [Str.join]
   | cons x xs ih =>
     rw [List.map_cons,show sp = (⟨#[32]⟩:Str) from rfl,qv_,show (⟨#[32]⟩:Str) = sp from rfl,ih,List.flatMap_cons]
     simp
 intro xs
 unfold rowS
 rw [key,ug_,List.append_assoc]
 rfl
theorem x8_ {s:Int} {xs:List Int} (hs:In10 s) (hx:∀ x ∈ xs,In10 x) (hl:xs.length ≤ 1000):yn_ [.int s,.lst (I xs)] = some (.ok (.str (rowS s xs))):=by
 have hz:=kc_
 have s1:=km_ hs.1 (by have:=hs.2; omega)
 have l1:=ve_ hs.1 (by have:=hs.2; omega)
 have c:yf_ (itE (vr 1)) (.nm 2) 1 (yes) (fsE (ya_ (cst (.str (PySem.Str.ofString " "))) (ya_ (op1 fmtD (vr 2)) (nilA)))) [Sl.sh (.int s),.sh (.lst (I xs))] = some ([Sl.sh (.int s),.sh (.lst (I xs))],.ok (.lst ((xs.map fun x => (Str.empty ++ PySem.Str.ofString " ") ++ intS x).map D.str))):=by
   rw [vh_ (fun d => match d with | .int x => .str ((Str.empty ++ PySem.Str.ofString " ") ++ intS x) | _ => .non) (ds:=I xs) ?a ?b ?h ?c]
   case h => rfl
   case a => simp! only []
   case b => simp; omega
   case c =>
     intro d hd
     obtain ⟨x,hx',rfl⟩:=List.mem_map.mp hd
     have sx:=km_ (hx x hx').1 (by have:=(hx x hx').2; omega)
     have lx:=ve_ (hx x hx').1 (by have:=(hx x hx').2; omega)
     have e:strz [.str (PySem.Str.ofString " "),.str (intS x)] = some [PySem.Str.ofString " ",intS x]:=rfl
     have hle:[(PySem.Str.ofString " ").length,(intS x).length].sum ≤ lim:=by
       have:(PySem.Str.ofString " ").length = 1:=by decide +kernel
       simp only [List.sum_cons,List.sum_nil,qe_]
       omega
     simp! only [yan_,wa6_ sx,e,hle,List.foldl_cons,List.foldl_nil]
   rw [List.map_map,List.map_map]
   rfl
 have e1:strz [.str (intS s),.str (PySem.Str.ofString ":")] = some [intS s,PySem.Str.ofString ":"]:=rfl
 have c1:(PySem.Str.ofString ":").length = 1:=by decide +kernel
 have c2:(PySem.Str.ofString " ").length = 1:=by decide +kernel
 have h1:[(intS s).length,(PySem.Str.ofString ":").length].sum ≤ lim:=by
   simp only [List.sum_cons,List.sum_nil,qe_]
   omega
 have hB:∀ y ∈ xs.map (fun x => (Str.empty ++ PySem.Str.ofString " ") ++ intS x),y.length ≤ 3:=fun y hy => by
   obtain ⟨x,hx',rfl⟩:=List.mem_map.mp hy
   have lx:=ve_ (hx x hx').1 (by have:=(hx x hx').2; omega)
   rw [qc_,qc_,c2]
   show 0 + 1 + _ ≤ 3
   omega
 have hsum:=j4_ _ hB
 rw [List.length_map] at hsum
 have c0:(PySem.Str.ofString "").length = 0:=by decide +kernel
 have ej:=kn_ (x:=PySem.Str.ofString "") (ys:=xs.map fun x => (Str.empty ++ PySem.Str.ofString " ") ++ intS x) rfl (by rw [c0,qe_]; omega)
 have hjl:(Str.join (PySem.Str.ofString "") (xs.map fun x => (Str.empty ++ PySem.Str.ofString " ") ++ intS x)).length ≤ 3 * xs.length:=by
   have:PySem.Str.ofString "" = Str.empty:=by decide +kernel
   rw [this]
   show (Str.join Str.empty _).cps.size ≤ _
   rw [← Array.length_toList,yp_,List.length_flatMap]
   exact hsum
 have ea:addD (.str ((Str.empty ++ intS s) ++ PySem.Str.ofString ":")) (.str (Str.join (PySem.Str.ofString "") (xs.map fun x => (Str.empty ++ PySem.Str.ofString " ") ++ intS x))) = some (.str (rowS s xs)):=by
   have hle:((Str.empty ++ intS s) ++ PySem.Str.ofString ":").length + (Str.join (PySem.Str.ofString "") (xs.map fun x => (Str.empty ++ PySem.Str.ofString " ") ++ intS x)).length ≤ sizeLine:=by
     rw [qc_,qc_,c1]
     have:Str.empty.length = 0:=rfl
     omega
   show (if _ then _ else _) = _
   rw [if_pos hle]
   congr 2
   refine wk_ ?_
   have q0:PySem.Str.ofString "" = Str.empty:=by decide +kernel
   have q1:PySem.Str.ofString ":" = ⟨#[58]⟩:=by decide +kernel
   have q2:PySem.Str.ofString " " = ⟨#[32]⟩:=by decide +kernel
   rw [wbg_,q0,q1,q2,ug_,ug_,ug_,yp_,List.flatMap_map]
   simp only [ug_]
   simp [Str.empty]
 unfold yn_
 rw [ym_]
 simp! only [yan_,wc_,kd_,wa6_ s1,e1,h1,List.foldl_cons,List.foldl_nil,c,ej,ea]
theorem jf_ {b:Nat} (hb:b ≤ 11) (w:Str):qb_ [.int (b:Int),.str w] = some (match nbO b w with | some k => .ok (.int (k:Int)) | none => .er "BadText"):=by
 have eqS:∀ x y:Str,eqF (.str x) (.str y) = some (.bl (decide (x = y))):=fun x y => by
   unfold eqF
   rw [kf_ (d:=.str x) (k:=0) ⟨0,by simp [dep],by omega⟩ (by omega),kf_ (d:=.str y) (k:=0) ⟨0,by simp [dep],by omega⟩ (by omega)]
   simp only [eqD,Bool.and_self,if_true]
   rfl
 have key:=w2_ (i:=2) (b:=(sI (tsB (op2 eqF (blt strF (ya_ (vr 2) (nilA))) (vr 1))) (sR (vr 2)) (sNx))) (fun ρ => ∃ t,ρ = [Sl.sh (.int (b:Int)),.sh (.str w),t])
   (fun d => match d with | .int i => if intS i = w then some (.int i) else none | _ => none) ((List.range b).map fun (k:Nat) => D.int (k:Int)) [Sl.sh (.int (b:Int)),.sh (.str w),.un] (by
     rintro d hd ρ ⟨t,rfl⟩
     obtain ⟨k,hk,rfl⟩:=List.mem_map.mp hd
     have hk:=List.mem_range.mp hk
     have sk:=km_ (i:=(k:Int)) (by omega) (by omega)
     dsimp only
     by_cases q:intS (k:Int) = w
     · refine ⟨fun v hv => ⟨[Sl.sh (.int (b:Int)),.sh (.str w),.sh (.int (k:Int))],?_⟩,fun hn => ?_⟩
       · rw [if_pos q] at hv
         cases hv
         simp! only [yw_ sk,eqS,q]
       · rw [if_pos q] at hn; cases hn
     · refine ⟨fun v hv => ?_,fun _ => ⟨_,⟨.sh (.int (k:Int)),rfl⟩,?_⟩⟩
       · rw [if_neg q] at hv; cases hv
       · simp! only [yw_ sk,eqS,q]) ⟨_,rfl⟩
 have hr:=x2_ (j:=(b:Int)) (by omega) (by omega)
 have hrm:rng 0 (b:Int) = (List.range b).map fun (k:Nat) => D.int (k:Int):=by
   unfold rng
   rw [show ((b:Int) - 0).toNat = b by omega]
   exact List.map_congr_left fun j _ => by rw [Int.zero_add]
 rw [hrm] at hr
 have hf:((List.range b).map fun (k:Nat) => D.int (k:Int)).findSome? (fun d => match d with | .int i => if intS i = w then some (D.int i) else none | _ => none) = (nbO b w).map fun k => D.int (k:Int):=by
   unfold nbO
   generalize List.range b = l
   induction l with
   | nil => rfl
   | cons k l ih =>
     rw [List.map_cons,List.findSome?_cons,List.find?_cons,ih]
     dsimp only
     by_cases q:intS (k:Int) = w
     · rw [if_pos q,decide_eq_true q]; rfl
     · rw [if_neg q,decide_eq_false q]
 rw [hf] at key
 unfold qb_
 rw [ym_]
 cases q:nbO b w with
 | none =>
   rw [q] at key
   obtain ⟨ρ',⟨t,rfl⟩,e⟩:=key.2 rfl
   simp! only [hr,e]
 | some k =>
   rw [q] at key
   obtain ⟨ρ',e⟩:=key.1 (.int (k:Int)) rfl
   simp! only [hr,e]
end FW
namespace FW
open DS FM PySem.StrLaws
open PySem (Str sizeLine)
theorem xan_ {s:Int} {xs:List Int} (hs:In10 s) (hx:∀ x ∈ xs,In10 x):(rowS s xs).length ≤ 3 + 3 * xs.length:=by
 show (rowS s xs).cps.size ≤ _
 rw [← Array.length_toList,wbg_]
 have l1:(intS s).cps.toList.length ≤ 2:=by have:=ve_ hs.1 (by have:=hs.2; omega); rw [Array.length_toList]; exact this
 have:(xs.flatMap fun x => 32 :: (intS x).cps.toList).length ≤ 3 * xs.length:=by
   induction xs with
   | nil => simp
   | cons x xs ih =>
     have lx:(intS x).cps.toList.length ≤ 2:=by have:=ve_ (hx x (by simp)).1 (by have:=(hx x (by simp)).2; omega); rw [Array.length_toList]; exact this
     have:=ih fun y hy => hx y (by simp [hy])
     rw [List.flatMap_cons,List.length_append,List.length_cons,List.length_cons]
     omega
 rw [List.length_append,List.length_cons]
 omega
noncomputable def rowF (ls:List Pr) (s:Nat):Option Str:=if (gtI ls s).isEmpty = true then none else some (rowS s (gtI ls s))
theorem wan_ (ls:List Pr) (s:Int):(gtI ls s).length ≤ ls.length:=by
 unfold gtI
 rw [List.length_map]
 exact List.length_filter_le _ _
theorem uax_ (s:Int):∀ ls:List Pr,((L ls).filter (fun d => match d with | .tup [.int a,_] => decide (a = s) | _ => false)).map (fun d => match d with | .tup [_,y] => y | _ => .non) = I (gtI ls s)
 | [] => rfl
 | p :: ls => by
   have ih:=uax_ s ls
   unfold gtI at ih ⊢
   rw [show L (p :: ls) = lnD p :: L ls from rfl,List.filter_cons,List.filter_cons]
   by_cases q:p.1 = s
   · simp only [lnD,q,decide_true,if_true,List.map_cons]
     rw [ih]
   · simp only [lnD,q,decide_false,Bool.false_eq_true,if_false]
     exact ih
noncomputable def yaf_:FS:=(sq (sA (.nm 4) (yf_ (itE (op2 ixD (vr 0) (cst (.int 1)))) (.nm 5) 1 (tsB (op2 eqF (op2 ixD (vr 5) (cst (.int 0))) (vr 3))) (op2 ixD (vr 5) (cst (.int 1))))) (sI (tst (vr 4)) (sP 2 (cal yn_ (ya_ (vr 3) (ya_ (vr 4) (nilA))))) (sNx)))
theorem zt_ {n:Nat} {ls:List Pr} (hn:n ≤ 10) (hp:∀ p ∈ ls,In10 p.2) (hl:ls.length ≤ 1000):∀ (l:List Nat) (acc:List Str) (t3 t4:Sl),(∀ s ∈ l,s < n)→acc.length + l.length ≤ 1000 →
   ∃ t3' t4',forL (.nm 3) yaf_ (l.map fun (k:Nat) => D.int (k:Int)) [.sh (web n ls),.sh (.int (n:Int)),.ow (acc.map D.str),t3,t4] = some ([.sh (web n ls),.sh (.int (n:Int)),.ow ((acc ++ l.filterMap (rowF ls)).map D.str),t3',t4'],.nx)
 | [],acc,t3,t4,_,_ => ⟨t3,t4,by simp [forL]⟩
 | s :: l,acc,t3,t4,hs,hc => by
   have hz:=kc_
   rw [List.length_cons] at hc
   have h10:=hs s (by simp)
   have w1:ixD (web n ls) (.int 1) = some (.lst (L ls)):=rfl
   have hg:∀ x ∈ gtI ls s,In10 x:=fun x hx => by
     obtain ⟨p,hp',rfl⟩:=List.mem_map.mp hx
     exact hp p (List.mem_filter.mp hp').1
   have c:yf_ (itE (op2 ixD (vr 0) (cst (.int 1)))) (.nm 5) 1 (tsB (op2 eqF (op2 ixD (vr 5) (cst (.int 0))) (vr 3))) (op2 ixD (vr 5) (cst (.int 1))) [.sh (web n ls),.sh (.int (n:Int)),.ow (acc.map D.str),.sh (.int (s:Int)),t4] = some ([.sh (web n ls),.sh (.int (n:Int)),.ow (acc.map D.str),.sh (.int (s:Int)),t4],.ok (.lst (I (gtI ls s)))):=by
     rw [z2_ (fun d => match d with | .tup [.int a,_] => decide (a = (s:Int)) | _ => false) (fun d => match d with | .tup [_,y] => y | _ => .non) (ds:=L ls) ?a ?b ?h ?c ?d]
     case h => rfl
     case a => simp! only [w1]
     case b => simp; omega
     case c =>
       intro d hd
       obtain ⟨p,_,rfl⟩:=List.mem_map.mp hd
       simp! only [lnD]
     case d =>
       intro d hd _
       obtain ⟨p,_,rfl⟩:=List.mem_map.mp hd
       simp! only [lnD]
     rw [uax_]
   have er:=x8_ (s:=(s:Int)) (xs:=gtI ls s) ⟨by omega,by omega⟩ hg (by have:=wan_ ls (s:Int); omega)
   have hlt:(acc.map D.str).length < sizeLine:=by simp; omega
   rw [List.map_cons,List.filterMap_cons]
   unfold rowF
   cases q:(gtI ls s).isEmpty with
   | true =>
     have e:yaf_ ([.sh (web n ls),.sh (.int (n:Int)),.ow (acc.map D.str),t3,t4].set 3 (.sh (.int (s:Int)))) = some ([.sh (web n ls),.sh (.int (n:Int)),.ow (acc.map D.str),.sh (.int (s:Int)),.sh (.lst (I (gtI ls s)))],.nx):=by
       have q':(I (gtI ls s)).isEmpty = true:=by rw [List.isEmpty_map]; exact q
       unfold yaf_
       simp! only [c,q']
     rw [yd_ e]
     exact zt_ hn hp hl l acc _ _ (fun x hx => hs x (by simp [hx])) (by omega)
   | false =>
     have e:yaf_ ([.sh (web n ls),.sh (.int (n:Int)),.ow (acc.map D.str),t3,t4].set 3 (.sh (.int (s:Int)))) = some ([.sh (web n ls),.sh (.int (n:Int)),.ow ((acc ++ [rowS s (gtI ls s)]).map D.str),.sh (.int (s:Int)),.sh (.lst (I (gtI ls s)))],.nx):=by
       have q':(I (gtI ls s)).isEmpty = false:=by rw [List.isEmpty_map]; exact q
       unfold yaf_
       simp! only [c,q',er,hlt,List.map_append]
     rw [yd_ e]
     obtain ⟨t3',t4',e2⟩:=zt_ hn hp hl l (acc ++ [rowS s (gtI ls s)]) (.sh (.int (s:Int))) (.sh (.lst (I (gtI ls s)))) (fun x hx => hs x (by simp [hx])) (by simp; omega)
     refine ⟨t3',t4',?_⟩
     rw [e2,List.append_assoc]
     rfl
theorem vz_ (n:Nat) (ls:List Pr):wh_ n ls = (List.range n).filterMap (rowF ls):=rfl
theorem jab_ {n:Nat} {ls:List Pr} (hn:n ≤ 10) (hp:∀ p ∈ ls,In10 p.2) (hl:ls.length ≤ 1000):((hdS n :: wh_ n ls).map (·.length)).sum + (hdS n :: wh_ n ls).length * 1 ≤ lim:=by
 have hB:∀ y ∈ hdS n :: wh_ n ls,y.length ≤ 3003:=fun y hy => by
   rcases List.mem_cons.mp hy with rfl | hy
   · unfold hdS
     rw [qc_]
     have:=ve_ (x:=(n:Int)) (by omega) (by omega)
     have:zi_.length = 6:=by decide +kernel
     omega
   · obtain ⟨s,hs,e⟩:=List.mem_filterMap.mp hy
     have hs:=List.mem_range.mp hs
     split at e
     · cases e
     · cases e
       have:=xan_ (s:=(s:Int)) (xs:=gtI ls s) ⟨by omega,by omega⟩ fun x hx => by
         obtain ⟨p,hp',rfl⟩:=List.mem_map.mp hx
         exact hp p (List.mem_filter.mp hp').1
       have:=wan_ ls (s:Int)
       omega
 have:=j4_ _ hB
 have hc:(hdS n :: wh_ n ls).length ≤ 11:=by
   have:(wh_ n ls).length ≤ n:=by
     rw [vz_]
     exact Nat.le_trans (List.length_filterMap_le _ _) (by simp)
   simp; omega
 rw [qe_]
 omega
theorem jk_ {n:Nat} {ls:List Pr} (hn:n ≤ 10) (hp:∀ p ∈ ls,In10 p.2) (hl:ls.length ≤ 1000):vg_ [web n ls] = some (if yj_ n (ls.map pr) = true then .ok (.str (txt n ls)) else .er "BadWeb"):=by
 have hz:=kc_
 have w0:ixD (web n ls) (.int 0) = some (.int n):=rfl
 have lk:wf_ [web n ls] = some (if yj_ n (ls.map pr) = true then .ok .non else .er "BadWeb"):=by rw [kax_]; exact jn_ (by simp; omega) vax_
 have sn:=km_ (i:=(n:Int)) (by omega) (by omega)
 have e1:strz [.str (PySem.Str.ofString "spots "),.str (intS (n:Int))] = some [PySem.Str.ofString "spots ",intS (n:Int)]:=rfl
 have h1:[(PySem.Str.ofString "spots ").length,(intS (n:Int)).length].sum ≤ lim:=by
   have:=ve_ (x:=(n:Int)) (by omega) (by omega)
   have:(PySem.Str.ofString "spots ").length = 6:=by decide +kernel
   simp only [List.sum_cons,List.sum_nil,qe_]
   omega
 have hd:(Str.empty ++ PySem.Str.ofString "spots ") ++ intS (n:Int) = hdS n:=by
   refine wk_ ?_
   unfold hdS zi_
   rw [ug_,ug_,ug_]
   simp [Str.empty]
 have hr:=x2_ (j:=(n:Int)) (by omega) (by omega)
 have hrm:rng 0 (n:Int) = (List.range n).map fun (k:Nat) => D.int (k:Int):=by
   unfold rng
   rw [show ((n:Int) - 0).toNat = n by omega]
   exact List.map_congr_left fun j _ => by rw [Int.zero_add]
 rw [hrm] at hr
 obtain ⟨t3,t4,lp⟩:=zt_ hn hp hl (List.range n) [hdS n] .un .un (fun s hs => List.mem_range.mp hs) (by simp; omega)
 rw [← vz_] at lp
 have ej:=kn_ (x:=PySem.Str.ofString "\n") (ys:=hdS n :: wh_ n ls) rfl (by
   have:=jab_ hn hp hl
   have q:(PySem.Str.ofString "\n").length = 1:=by decide +kernel
   rw [q]; exact this)
 have en:PySem.Str.ofString "\n" = nl:=by decide +kernel
 rw [List.map_cons] at ej
 have h1z:([D.str (hdS n)]).length ≤ sizeLine:=by simp; omega
 unfold vg_
 rw [vi_]
 unfold yaf_ at lp
 rw [show ([hdS n] ++ wh_ n ls).map D.str = (hdS n :: wh_ n ls).map D.str from rfl,show ([hdS n]).map D.str = [D.str (hdS n)] from rfl] at lp
 by_cases hw:yj_ n (ls.map pr) = true
 · rw [if_pos hw] at lk ⊢
   have hsp:(PySem.Str.ofString "spots ").length ≤ lim:=by decide +kernel
   simp! only [lk,w0,yan_,jbn_ hsp,wa6_ sn,e1,h1,List.foldl_cons,List.foldl_nil,hd,h1z,hr,lp,wc_,kd_,ej]
   rw [en]
   rfl
 · rw [if_neg hw] at lk ⊢
   simp! only [lk]
end FW
namespace FW
open DS FM PySem.StrLaws
open PySem (Str sizeLine)
theorem vat_ {it:FI} {tg:Tg} {k:Nat} {e:M D} {ρ ρ1:Rho} {ds:List D} (h:it ρ = some (ρ1,.ok ds)) (h2:(decide (ds.length ≤ sizeLine) && above ρ1.length tg) = true):uad_ it tg k e ρ = (match yk_ tg e ds [] (ρ1 ++ List.replicate k .un) with
   | some (ρ2,.ok acc) => some (ρ2.take ρ1.length,.ok (.lst acc))
   | some (ρ2,.er n) => some (ρ2.take ρ1.length,.er n)
   | none => none):=by
 unfold uad_
 rw [h]
 dsimp only
 rw [if_pos h2]
 try rfl
theorem yl_ {x y:Str} (hy:0 < y.length) (hx:x.length ≤ lim):jj_ (.str x) (.str y) = some (.lst ((PySem.Txt.split x y).map D.str)):=by
 show (if _ then _ else _) = _
 rw [if_pos (by simp [hy,hx])]
theorem uat_ (x y:Str):ewD (.str x) (.str y) = some (.bl (PySem.Txt.endswith x y)):=rfl
theorem xaf_ (x y:Str):swD (.str x) (.str y) = some (.bl (PySem.Txt.startswith x y)):=rfl
theorem xp_ {x:Str} (hx:x.length ≤ 1000) (l h:Option Int):slS (.str x) l h = some (.str (PySem.Txt.slice x l h)):=if_pos (show x.length ≤ lim by rw [qe_]; omega)
theorem je_ (x y:Str):∃ w ws,PySem.Txt.split x y = w :: ws:=by
 have:=(PyProof.Rows.fact_split x y).1
 cases q:PySem.Txt.split x y with
 | nil => rw [q] at this; simp at this
 | cons w ws => exact ⟨w,ws,rfl⟩
theorem q_sp:PySem.Str.ofString " " = sp:=by decide +kernel
theorem q_co:PySem.Str.ofString ":" = co:=by decide +kernel
theorem q_nl:PySem.Str.ofString "\n" = nl:=by decide +kernel
theorem jh_ (i:Int):asI (.int i) = some i:=rfl
theorem kab_ {n:Nat} (hn:n ≤ 11) (s:Int) (r w:Sl):∀ (ws:List Str) (acc:List D) (t:Sl),∃ t',yk_ (.nm 4) (tupE (ya_ (vr 3) (ya_ (cal qb_ (ya_ (vr 1) (ya_ (vr 4) (nilA)))) (nilA)))) (ws.map D.str) acc [r,.sh (.int (n:Int)),w,.sh (.int s),t] =
   some ([r,.sh (.int (n:Int)),w,.sh (.int s),t'],match nbs n ws with | some xs => .ok (acc ++ L (xs.map fun x => (s,x))) | none => .er "BadText")
 | [],acc,t => ⟨t,by simp [yk_,nbs]⟩
 | x :: ws,acc,t => by
   have e:=jf_ hn x
   show ∃ t',yk_ _ _ (D.str x :: ws.map D.str) acc _ = _
   unfold yk_ nbs
   cases q:nbO n x with
   | none =>
     rw [q] at e
     refine ⟨.sh (.str x),?_⟩
     simp! only [e,Option.bind_none]
   | some k =>
     rw [q] at e
     obtain ⟨t',ih⟩:=kab_ hn s r w ws (acc ++ [.tup [.int s,.int (k:Int)]]) (.sh (.str x))
     refine ⟨t',?_⟩
     simp! only [e,Option.bind_some]
     rw [ih]
     cases nbs n ws with
     | none => rfl
     | some xs => simp [lnD]
theorem uz_ {n:Nat} (hn:n ≤ 11) {row:Str} (hl:row.length ≤ 1000):qh_ [.str row,.int (n:Int)] = some (match wn_ n row with | some ls => .ok (.lst (L ls)) | none => .er "BadText"):=by
 have hz:=kc_
 have hs:=yl_ (x:=row) (y:=sp) (by decide) (by rw [qe_]; omega)
 obtain ⟨w,ws,e⟩:=je_ row sp
 have hle:=(PyProof.Rows.fact_split row sp).2
 have hwl:w.length ≤ 1000:=by
   have:=PyProof.Rows.part_short (x:=row) (y:=sp) (a:=w) (by rw [e]; simp)
   omega
 rw [e] at hs hle
 rw [List.length_cons] at hle
 have hx:ixD (.lst ((w :: ws).map D.str)) (.int 0) = some (.str w):=um_ _ _
 have hsl:slD (.lst ((w :: ws).map D.str)) (some 1) none = some (.lst (ws.map D.str)):=by
   show some (D.lst (cut ((w :: ws).map D.str) (some 1) none)) = _
   rw [show (1:Int) = ((1:Nat):Int) from rfl,zr_ _ _ (by simp)]
   rfl
 have nb0:=jf_ hn (PySem.Txt.slice w none (some (-1)))
 rw [List.map_cons] at hs hx hsl
 unfold qh_ wn_
 rw [ym_,e,q_sp,q_co]
 dsimp only
 cases q1:PySem.Txt.endswith w co with
 | false =>
   simp! only [wc_,kd_,hs,hx,uat_,q1]
 | true =>
   cases q2:nbO n (PySem.Txt.slice w none (some (-1))) with
   | none =>
     rw [q2] at nb0
     simp! only [wc_,kd_,hs,hx,uat_,q1,wd_,jh_,xp_ hwl,nb0,Option.bind_none,Int.reduceNeg]
   | some s =>
     rw [q2] at nb0
     obtain ⟨t',ec⟩:=kab_ hn (s:Int) (.sh (.str row)) (.sh (.lst (D.str w :: ws.map D.str))) ws [] .un
     have hit:itE (slE (vr 2) (some (cst (.int 1))) none) [Sl.sh (.str row),.sh (.int (n:Int)),.sh (.lst (D.str w :: ws.map D.str)),.sh (.int (s:Int))] = some ([Sl.sh (.str row),.sh (.int (n:Int)),.sh (.lst (D.str w :: ws.map D.str)),.sh (.int (s:Int))],.ok (ws.map D.str)):=by
       simp! only [jh_,hsl]
     have cx:=vat_ (tg:=.nm 4) (k:=1) (e:=tupE (ya_ (vr 3) (ya_ (cal qb_ (ya_ (vr 1) (ya_ (vr 4) (nilA)))) (nilA)))) hit (by simp [above]; omega)
     rw [show [Sl.sh (.str row),.sh (.int (n:Int)),.sh (.lst (D.str w :: ws.map D.str)),.sh (.int (s:Int))] ++ List.replicate 1 Sl.un = [Sl.sh (.str row),.sh (.int (n:Int)),.sh (.lst (D.str w :: ws.map D.str)),.sh (.int (s:Int)),.un] from rfl,ec] at cx
     cases q3:nbs n ws with
     | none =>
       rw [q3] at cx
       simp! only [wc_,kd_,hs,hx,uat_,q1,wd_,jh_,xp_ hwl,nb0,Int.reduceNeg,cx,Option.bind_some,Option.map_none]
     | some xs =>
       rw [q3] at cx
       simp! only [wc_,kd_,hs,hx,uat_,q1,wd_,jh_,xp_ hwl,nb0,Int.reduceNeg,cx,Option.bind_some,Option.map_some]
theorem qat_ {n:Nat} {ls:List Pr} (hn:n ≤ 10) (hp:∀ p ∈ ls,In10 p.2) (hl:ls.length ≤ 1000):vb_ [web n ls] = some (if yj_ n (ls.map pr) = true then .ok (.str (txt n ls)) else .er "BadText"):=by
 have e:=jk_ hn hp hl
 have sb:(clss.contains "BadWeb" && sup "BadWeb" "BadWeb") = true:=rfl
 unfold vb_
 rw [vi_]
 unfold sTrX
 by_cases hw:yj_ n (ls.map pr) = true
 · rw [if_pos hw] at e ⊢
   simp! only [e]
 · rw [if_neg hw] at e ⊢
   simp! only [e,sb]
theorem vn_ (c:Nat):∀ ps:List Str,ps ≠ []→(Str.join ⟨#[c]⟩ ps).length + 1 = (ps.map (·.length)).sum + ps.length
 | [],h => absurd rfl h
 | [p],_ => by simp [Str.join]
 | p :: q :: r,_ => by
   have ih:=vn_ c (q :: r) (by simp)
   rw [qq_,qc_,qc_]
   have:(⟨#[c]⟩:Str).length = 1:=rfl
   simp only [List.map_cons,List.sum_cons,List.length_cons] at ih ⊢
   omega
theorem k4_ (x:Str) (c:Nat):((PySem.Txt.split x ⟨#[c]⟩).map (·.length)).sum + (PySem.Txt.split x ⟨#[c]⟩).length = x.length + 1:=by
 obtain ⟨w,ws,e⟩:=je_ x ⟨#[c]⟩
 have:=vn_ c (PySem.Txt.split x ⟨#[c]⟩) (by rw [e]; simp)
 rw [join_split] at this
 omega
theorem jan_:∀ {l:List Nat} {a:Nat},a ∈ l→a ≤ l.sum
 | [],_,h => (nomatch h)
 | b :: l,a,h => by
   rw [List.sum_cons]
   rcases List.mem_cons.mp h with rfl | h
   · omega
   · have:=jan_ h; omega
theorem ja6_ {x:Str} {c:Nat} {p:Str} (h:p ∈ PySem.Txt.split x ⟨#[c]⟩):p.length ≤ x.length:=by
 have h1:=k4_ x c
 obtain ⟨w,ws,e⟩:=je_ x ⟨#[c]⟩
 have:p.length ≤ ((PySem.Txt.split x ⟨#[c]⟩).map (·.length)).sum:=jan_ (List.mem_map.mpr ⟨p,h,rfl⟩)
 have:1 ≤ (PySem.Txt.split x ⟨#[c]⟩).length:=by rw [e]; simp
 omega
theorem kan_ {b:Nat}:∀ {ws:List Str} {xs:List Int},nbs b ws = some xs→xs.length = ws.length ∧ ∀ x ∈ xs,0 ≤ x ∧ x < b
 | [],xs,h => by cases h; exact ⟨rfl,fun x hx => (nomatch hx)⟩
 | w :: ws,xs,h => by
   obtain ⟨k,h1,h⟩:=Option.bind_eq_some_iff.mp h
   obtain ⟨ys,h2,rfl⟩:=Option.map_eq_some_iff.mp h
   obtain ⟨l1,l2⟩:=kan_ h2
   have:=(xz_ h1).1
   refine ⟨by simp [l1],fun x hx => ?_⟩
   rcases List.mem_cons.mp hx with rfl | hx
   · omega
   · exact l2 x hx
theorem xw_ {n:Nat} {row:Str} {ls:List Pr} (h:wn_ n row = some ls):ls.length ≤ row.length + 1 ∧ ∀ p ∈ ls,(0 ≤ p.1 ∧ p.1 < n) ∧ 0 ≤ p.2 ∧ p.2 < n:=by
 unfold wn_ at h
 obtain ⟨w,ws,e⟩:=je_ row sp
 have hle:=(PyProof.Rows.fact_split row sp).2
 rw [e] at h hle
 dsimp only at h
 split at h
 · obtain ⟨k,h1,h⟩:=Option.bind_eq_some_iff.mp h
   obtain ⟨xs,h2,rfl⟩:=Option.map_eq_some_iff.mp h
   obtain ⟨l1,l2⟩:=kan_ h2
   have:=(xz_ h1).1
   rw [List.length_cons] at hle
   refine ⟨by simp; omega,fun p hp => ?_⟩
   obtain ⟨x,hx,rfl⟩:=List.mem_map.mp hp
   exact ⟨⟨by show (0:Int) ≤ k; omega,by show (k:Int) < n; omega⟩,l2 x hx⟩
 · cases h
theorem up_ {n:Nat}:∀ {rs:List Str} {ls:List Pr},zg_ n rs = some ls→ls.length ≤ (rs.map (·.length)).sum + rs.length ∧ ∀ p ∈ ls,(0 ≤ p.1 ∧ p.1 < n) ∧ 0 ≤ p.2 ∧ p.2 < n
 | [],ls,h => by cases h; exact ⟨by simp,fun p hp => (nomatch hp)⟩
 | r :: rs,ls,h => by
   obtain ⟨a,h1,h⟩:=Option.bind_eq_some_iff.mp h
   obtain ⟨b,h2,rfl⟩:=Option.map_eq_some_iff.mp h
   obtain ⟨l1,l2⟩:=xw_ h1
   obtain ⟨m1,m2⟩:=up_ h2
   refine ⟨by simp; omega,fun p hp => ?_⟩
   rcases List.mem_append.mp hp with q | q
   · exact l2 p q
   · exact m2 p q
noncomputable def w8_ (t:Str):Option (Nat × List Pr):=match PySem.Txt.split t nl with
 | [] => none
 | r0 :: rs => if PySem.Txt.startswith r0 zi_ = true then (nbO 11 (PySem.Txt.slice r0 (some 6) none)).bind fun n => (zg_ n rs).bind fun ls => if (yj_ n (ls.map pr) && decide (txt n ls = t)) = true then some (n,ls) else none else none
noncomputable def waf_:FS:=(sX 3 (cal qh_ (ya_ (vr 4) (ya_ (vr 2) (nilA)))))
theorem v4_ {n:Nat} (hn:n ≤ 10) (a b:Sl):∀ (rs:List Str) (acc:List Pr) (t4 t5:Sl),(∀ r ∈ rs,r.length ≤ 1000)→acc.length + (rs.map (·.length)).sum + rs.length ≤ 2000 →
   (zg_ n rs = none→∃ ρ',forL (.nm 4) waf_ (rs.map D.str) [a,b,.sh (.int (n:Int)),.ow (L acc),t4,t5] = some (ρ',.er "BadText")) ∧
   (∀ ls,zg_ n rs = some ls→∃ t4',forL (.nm 4) waf_ (rs.map D.str) [a,b,.sh (.int (n:Int)),.ow (L acc),t4,t5] = some ([a,b,.sh (.int (n:Int)),.ow (L (acc ++ ls)),t4',t5],.nx))
 | [],acc,t4,t5,_,_ => ⟨fun h => (nomatch h),fun ls h => by cases h; exact ⟨t4,by simp [forL]⟩⟩
 | r :: rs,acc,t4,t5,hr,hc => by
   have hz:=kc_
   simp only [List.map_cons,List.sum_cons,List.length_cons] at hc
   have e:=uz_ (n:=n) (row:=r) (by omega) (hr r (by simp))
   show (_→∃ ρ',forL _ _ (D.str r :: rs.map D.str) _ = _) ∧ (∀ ls,_→∃ t4',forL _ _ (D.str r :: rs.map D.str) _ = _)
   unfold zg_
   cases q:wn_ n r with
   | none =>
     rw [q] at e
     refine ⟨fun _ => ⟨[a,b,.sh (.int (n:Int)),.ow (L acc),.sh (.str r),t5],qa2_ ?_⟩,fun ls h => (nomatch h)⟩
     unfold waf_
     simp! only [e]
   | some ls =>
     rw [q] at e
     have ll:=(xw_ q).1
     have hlt:(L acc).length + (L ls).length ≤ sizeLine:=by simp; omega
     have e3:waf_ ([a,b,.sh (.int (n:Int)),.ow (L acc),t4,t5].set 4 (.sh (.str r))) = some ([a,b,.sh (.int (n:Int)),.ow (L (acc ++ ls)),.sh (.str r),t5],.nx):=by
       unfold waf_
       simp! only [e,hlt,List.map_append]
     rw [yd_ e3,Option.bind_some]
     obtain ⟨h1,h2⟩:=v4_ hn a b rs (acc ++ ls) (.sh (.str r)) t5 (fun x hx => hr x (by simp [hx])) (by simp; omega)
     refine ⟨fun h => h1 (Option.map_eq_none_iff.mp h),fun ms h => ?_⟩
     obtain ⟨us,e4,rfl⟩:=Option.map_eq_some_iff.mp h
     obtain ⟨t4',e5⟩:=h2 us e4
     exact ⟨t4',by rw [e5,List.append_assoc]⟩
theorem u4_ {t:Str} (ht:t.length ≤ 400):q3_ [.str t] = some (match w8_ t with | some p => .ok (web p.1 p.2) | none => .er "BadText"):=by
 have hz:=kc_
 have hs:=yl_ (x:=t) (y:=nl) (by decide) (by rw [qe_]; omega)
 obtain ⟨r0,rs,e⟩:=je_ t nl
 have hpl:=k4_ t 10
 have hle:∀ r ∈ PySem.Txt.split t nl,r.length ≤ t.length:=fun r hr => ja6_ (c:=10) hr
 rw [show (⟨#[10]⟩:Str) = nl from rfl] at hpl
 rw [e] at hs hpl hle
 have hr0:r0.length ≤ 1000:=by have:=hle r0 (by simp); omega
 simp only [List.map_cons,List.sum_cons,List.length_cons] at hpl
 have hx:ixD (.lst ((r0 :: rs).map D.str)) (.int 0) = some (.str r0):=um_ _ _
 have hsl:slD (.lst ((r0 :: rs).map D.str)) (some 1) none = some (.lst (rs.map D.str)):=by
   show some (D.lst (cut ((r0 :: rs).map D.str) (some 1) none)) = _
   rw [show (1:Int) = ((1:Nat):Int) from rfl,zr_ _ _ (by simp)]
   rfl
 rw [List.map_cons] at hs hx hsl
 have nb0:=jf_ (b:=11) (by omega) (PySem.Txt.slice r0 (some 6) none)
 have l6:lenS [.str (PySem.Str.ofString "spots ")] = some (.int 6):=by rfl
 have qs:PySem.Str.ofString "spots " = zi_:=rfl
 have hnil:([]:List D).length ≤ sizeLine:=by simp
 have i11:((10:Int) + 1) = ((11:Nat):Int):=rfl
 unfold q3_ w8_
 rw [vi_,e,q_nl,qs]
 rw [qs] at l6
 dsimp only
 cases q1:PySem.Txt.startswith r0 zi_ with
 | false => simp! only [wc_,kd_,hs,hx,xaf_,q1]
 | true =>
   cases q2:nbO 11 (PySem.Txt.slice r0 (some 6) none) with
   | none =>
     rw [q2] at nb0
     simp! only [wc_,kd_,hs,hx,xaf_,q1,wd_,l6,jh_,xp_ hr0,i11,nb0,Option.bind_none]
   | some n =>
     rw [q2] at nb0
     have hn:n ≤ 10:=by have:=(xz_ q2).1; omega
     have hlp:=v4_ hn (.sh (.str t)) (.sh (.lst (D.str r0 :: rs.map D.str))) rs [] .un .un (fun r hr => by have:=hle r (by simp [hr]); omega) (by simp; omega)
     unfold waf_ at hlp
     rw [show L ([]:List Pr) = [] from rfl] at hlp
     rw [Option.bind_some]
     cases q3:zg_ n rs with
     | none =>
       obtain ⟨ρ',el⟩:=hlp.1 q3
       simp! only [wc_,kd_,hs,hx,xaf_,q1,wd_,l6,jh_,xp_ hr0,i11,nb0,hnil,hsl,el,Option.bind_none]
     | some ls =>
       obtain ⟨t4,el⟩:=hlp.2 ls q3
       rw [List.nil_append] at el
       obtain ⟨ll,lm⟩:=up_ q3
       have hp:∀ p ∈ ls,In10 p.2:=fun p hp => ⟨(lm p hp).2.1,by have:=(lm p hp).2.2; omega⟩
       have ew:=qat_ hn hp (by omega)
       have ewb:vb_ [.tup [.int (n:Int),.lst (L ls)]] = _:=ew
       have ns:neF (.str (txt n ls)) (.str t) = some (.bl (!decide (txt n ls = t))):=by
         unfold neF
         rw [kf_ (d:=.str (txt n ls)) (k:=0) ⟨0,by simp [dep],by omega⟩ (by omega),kf_ (d:=.str t) (k:=0) ⟨0,by simp [dep],by omega⟩ (by omega)]
         simp only [eqD,Bool.and_self,if_true]
         rfl
       rw [Option.bind_some]
       cases q4:yj_ n (ls.map pr) with
       | false =>
         rw [q4] at ewb
         simp only [Bool.false_eq_true,if_false] at ewb
         simp! only [wc_,kd_,hs,hx,xaf_,q1,wd_,l6,jh_,xp_ hr0,i11,nb0,hnil,hsl,el,ewb,Bool.false_and]
       | true =>
         rw [q4] at ewb
         simp only [if_true] at ewb
         cases q5:decide (txt n ls = t) with
         | false =>
           rw [q5] at ns
           simp! only [wc_,kd_,hs,hx,xaf_,q1,wd_,l6,jh_,xp_ hr0,i11,nb0,hnil,hsl,el,ewb,ns,Bool.true_and,Bool.and_false]
         | true =>
           rw [q5] at ns
           simp! only [wc_,kd_,hs,hx,xaf_,q1,wd_,l6,jh_,xp_ hr0,i11,nb0,hnil,hsl,el,ewb,ns,Bool.and_self]
           rfl
end FW
namespace FW
open DS FM PySem.StrLaws
open PySem (Str sizeLine)
theorem qp_:∀ {ls:List Ln},ue_ lexLt (ls.map pr) = true→ls.Pairwise jp_
 | [],_ => .nil
 | [_],_ => by simp
 | p :: q :: r,h => by
   simp only [List.map_cons] at h
   rw [ue_,Bool.and_eq_true] at h
   have ih:=qp_ (ls:=q :: r) h.2
   have h1:=(yab_ p q).mp h.1
   refine List.pairwise_cons.mpr ⟨fun z hz => ?_,ih⟩
   rcases List.mem_cons.mp hz with rfl | hz
   · exact h1
   · have h2:=(List.pairwise_cons.mp ih).1 z hz
     unfold jp_ at h1 h2 ⊢
     omega
theorem xl_ {n:Nat} {ls:List Pr}:yj_ n (ls.map pr) = true ↔ Wr n ls:=by
 unfold yj_
 rw [Bool.and_eq_true,Bool.and_eq_true,Bool.and_eq_true,decide_eq_true_eq,decide_eq_true_eq,List.all_eq_true]
 constructor
 · rintro ⟨⟨⟨h0,h1⟩,h2⟩,h3⟩
   refine ⟨by omega,fun p hp => ?_,qp_ h3⟩
   have:=h2 _ (List.mem_map.mpr ⟨p,hp,rfl⟩)
   unfold yi_ zaf_ pr at this
   simp only [rise,ue_,inB,List.length_cons,List.length_nil,List.all_cons,List.all_nil,Bool.and_true,Bool.and_eq_true,decide_eq_true_eq] at this
   omega
 · intro h
   refine ⟨⟨⟨by omega,by have:=h.n10; omega⟩,fun l hl => ?_⟩,wz_ h.up⟩
   obtain ⟨p,hp,rfl⟩:=List.mem_map.mp hl
   exact x4_ (h.ln p hp)
theorem van_:∀ n,n < 11→PySem.Txt.startswith (hdS (n:Nat)) zi_ = true ∧ PySem.Txt.slice (hdS (n:Nat)) (some 6) none = intS (n:Nat):=by decide +kernel
theorem qz_ {t:Str} {n:Nat} {ls:List Pr}:w8_ t = some (n,ls) ↔ Wr n ls ∧ t = txt n ls:=by
 constructor
 · intro h
   unfold w8_ at h
   split at h
   · cases h
   · split at h
     · obtain ⟨m,h1,h⟩:=Option.bind_eq_some_iff.mp h
       obtain ⟨ks,h2,h⟩:=Option.bind_eq_some_iff.mp h
       split at h
       · rename_i hh
         cases h
         rw [Bool.and_eq_true,decide_eq_true_eq] at hh
         exact ⟨xl_.mp hh.1,hh.2.symm⟩
       · cases h
     · cases h
 · rintro ⟨w,rfl⟩
   have h10:=w.n10
   obtain ⟨e1,e2⟩:=van_ n (by omega)
   unfold w8_
   rw [zab_ w]
   dsimp only
   rw [if_pos e1,e2,yz_ (by omega) (by omega),Option.bind_some,uam_ w,Option.bind_some,if_pos (by rw [xl_.mpr w]; simp)]
theorem kbn_ {n:Nat} {ls:List Ln} (g:GW n ls):Wr n ls:=⟨by have:=g.n7; omega,g.good,g.rise⟩
theorem uan_ {s:Int} {x:Int} {xs:List Int}:(intS s ++ PySem.Str.ofString ": ") ++ Str.join sp ((x :: xs).map intS) = rowS s (x :: xs):=by
 have q:PySem.Str.ofString ": " = co ++ sp:=by decide +kernel
 unfold rowS
 rw [List.map_cons,qq_,q]
 refine wk_ ?_
 rw [ug_,ug_,ug_,ug_,ug_,ug_]
 simp
theorem ka6_ (ys:List Str):neF (.lst (ys.map D.str)) (.lst []) = some (.bl (!ys.isEmpty)):=by
 unfold neF
 rw [kf_ (d:=.lst (ys.map D.str)) (k:=1) (k7_ (k:=0) fun d hd => by obtain ⟨y,_,rfl⟩:=List.mem_map.mp hd; exact ⟨0,by simp [dep],by omega⟩) (by omega),kf_ (d:=.lst []) (k:=1) (k7_ (k:=0) fun d hd => (nomatch hd)) (by omega)]
 cases ys with
 | nil => simp [eqD,eqDs]
 | cons y ys => simp [eqD,eqDs]
noncomputable def bLaw:FS:=(sq (sA (.nm 3) (yf_ (itE (op2 ixD (vr 0) (cst (.int 1)))) (.tp [4,5]) 2 (tsB (op2 eqF (vr 4) (vr 2))) (blt strF (ya_ (vr 5) (nilA))))) (sI (tsB (op2 neF (vr 3) (lstE (nilA)))) (sP 1 (op2 addD (op2 addD (blt strF (ya_ (vr 2) (nilA))) (cst (.str (PySem.Str.ofString ": ")))) (opS q1_ (cst (.str (PySem.Str.ofString " "))) (vr 3)))) (sNx)))
theorem addS {x y:Str} (h:x.length + y.length ≤ 100000):addD (.str x) (.str y) = some (.str (x ++ y)):=by
 have hz:=kc_
 show (if _ then _ else _) = _
 rw [if_pos (by omega)]
theorem z0_ {n:Nat} {ls:List Pr} (hn:n ≤ 10) (hp:∀ p ∈ ls,In10 p.2) (hl:ls.length ≤ 1000):∀ (l:List Nat) (acc:List Str) (t2 t3:Sl),(∀ s ∈ l,s < n)→acc.length + l.length ≤ 1000 →
   ∃ t2' t3',forL (.nm 2) bLaw (l.map fun (k:Nat) => D.int (k:Int)) [.sh (web n ls),.ow (acc.map D.str),t2,t3] = some ([.sh (web n ls),.ow ((acc ++ l.filterMap (rowF ls)).map D.str),t2',t3'],.nx)
 | [],acc,t2,t3,_,_ => ⟨t2,t3,by simp [forL]⟩
 | s :: l,acc,t2,t3,hs,hc => by
   have hz:=kc_
   rw [List.length_cons] at hc
   have h10:=hs s (by simp)
   have w1:ixD (web n ls) (.int 1) = some (.lst (L ls)):=rfl
   have ss:=km_ (i:=(s:Int)) (by omega) (by omega)
   have hg:∀ x ∈ gtI ls s,In10 x:=fun x hx => by
     obtain ⟨p,hp',rfl⟩:=List.mem_map.mp hx
     exact hp p (List.mem_filter.mp hp').1
   have hL:(ls.map fun p => (D.int p.1,D.int p.2)).map (fun d => D.tup [d.1,d.2]) = L ls:=by rw [List.map_map]; rfl
   have c:yf_ (itE (op2 ixD (vr 0) (cst (.int 1)))) (.tp [4,5]) 2 (tsB (op2 eqF (vr 4) (vr 2))) (blt strF (ya_ (vr 5) (nilA))) [.sh (web n ls),.ow (acc.map D.str),.sh (.int (s:Int)),t3] = some ([.sh (web n ls),.ow (acc.map D.str),.sh (.int (s:Int)),t3],.ok (.lst (((gtI ls s).map intS).map D.str))):=by
     rw [yaj_ (fun d => match d with | (.int a,_) => decide (a = (s:Int)) | _ => false) (fun d => match d with | (_,.int b) => .str (intS b) | _ => .non) (ds:=ls.map fun p => (D.int p.1,D.int p.2)) ?a ?b ?h ?h2 ?c ?d]
     case h => rfl
     case h2 => rfl
     case a => rw [hL]; simp! only [w1]
     case b => simp; omega
     case c =>
       intro d hd
       obtain ⟨p,_,rfl⟩:=List.mem_map.mp hd
       simp! only []
     case d =>
       intro d hd _
       obtain ⟨p,hp',rfl⟩:=List.mem_map.mp hd
       have sx:=km_ (hp p hp').1 (by have:=(hp p hp').2; omega)
       simp! only [yw_ sx]
     congr 3
     unfold gtI
     rw [List.filter_map,List.map_map,List.map_map,List.map_map]
     rfl
   have hlt:(acc.map D.str).length < sizeLine:=by simp; omega
   have nn:=ka6_ ((gtI ls s).map intS)
   rw [List.map_cons,List.filterMap_cons]
   unfold rowF
   cases q:gtI ls s with
   | nil =>
     rw [q] at c nn
     have e:bLaw ([.sh (web n ls),.ow (acc.map D.str),t2,t3].set 2 (.sh (.int (s:Int)))) = some ([.sh (web n ls),.ow (acc.map D.str),.sh (.int (s:Int)),.sh (.lst [])],.nx):=by
       simp only [List.map_nil,List.isEmpty_nil,Bool.not_true] at c nn
       unfold bLaw
       simp! only [c,nn]
     rw [yd_ e]
     exact z0_ hn hp hl l acc _ _ (fun x hx => hs x (by simp [hx])) (by omega)
   | cons x xs =>
     rw [q] at c nn hg
     have hxl:(x :: xs).length ≤ 1000:=by rw [← q]; have:=wan_ ls (s:Int); omega
     have hB:∀ y ∈ (x :: xs).map intS,y.length ≤ 2:=fun y hy => by
       obtain ⟨z,hz',rfl⟩:=List.mem_map.mp hy
       exact ve_ (hg z hz').1 (by have:=(hg z hz').2; omega)
     have hsum:=j4_ _ hB
     rw [List.length_map] at hsum
     have c1:(PySem.Str.ofString " ").length = 1:=by decide +kernel
     have c2:(PySem.Str.ofString ": ").length = 2:=by decide +kernel
     have lS:=ve_ (x:=(s:Int)) (by omega) (by omega)
     have ej:=kn_ (x:=PySem.Str.ofString " ") (ys:=(x :: xs).map intS) rfl (by rw [c1,List.length_map,qe_]; omega)
     have jl:=vn_ 32 ((x :: xs).map intS) (by simp)
     rw [List.length_map] at jl
     have qsp:PySem.Str.ofString " " = (⟨#[32]⟩:Str):=by decide +kernel
     have a1:=addS (x:=intS (s:Int)) (y:=PySem.Str.ofString ": ") (by omega)
     have a2:=addS (x:=intS (s:Int) ++ PySem.Str.ofString ": ") (y:=Str.join (PySem.Str.ofString " ") ((x :: xs).map intS)) (by rw [qc_,c2,qsp]; omega)
     have er:(intS (s:Int) ++ PySem.Str.ofString ": ") ++ Str.join (PySem.Str.ofString " ") ((x :: xs).map intS) = rowS s (x :: xs):=by rw [q_sp]; exact uan_
     rw [er] at a2
     simp only [List.map_cons,List.isEmpty_cons,Bool.not_false] at nn ej a2 c
     have e:bLaw ([.sh (web n ls),.ow (acc.map D.str),t2,t3].set 2 (.sh (.int (s:Int)))) = some ([.sh (web n ls),.ow ((acc ++ [rowS s (x :: xs)]).map D.str),.sh (.int (s:Int)),.sh (.lst (D.str (intS x) :: (xs.map intS).map D.str))],.nx):=by
       unfold bLaw
       simp! only [c,nn,yw_ ss,a1,wc_,kd_,ej,a2,hlt,List.map_append]
     rw [yd_ e]
     obtain ⟨t2',t3',e2⟩:=z0_ hn hp hl l (acc ++ [rowS s (x :: xs)]) (.sh (.int (s:Int))) (.sh (.lst (D.str (intS x) :: (xs.map intS).map D.str))) (fun y hy => hs y (by simp [hy])) (by simp; omega)
     refine ⟨t2',t3',?_⟩
     rw [e2,List.append_assoc]
     rfl
theorem un_ {n:Nat} {ls:List Pr} (hn:n ≤ 10) (hp:∀ p ∈ ls,In10 p.2) (hl:ls.length ≤ 1000):wg_ [web n ls] = some (.ok (.str (txt n ls))):=by
 have hz:=kc_
 have w0:ixD (web n ls) (.int 0) = some (.int n):=rfl
 have sn:=km_ (i:=(n:Int)) (by omega) (by omega)
 have ln:=ve_ (x:=(n:Int)) (by omega) (by omega)
 have c6:(PySem.Str.ofString "spots ").length = 6:=by decide +kernel
 have a1:addD (.str (PySem.Str.ofString "spots ")) (.str (intS (n:Int))) = some (.str (hdS n)):=addS (by omega)
 have hr:=x2_ (j:=(n:Int)) (by omega) (by omega)
 have hrm:rng 0 (n:Int) = (List.range n).map fun (k:Nat) => D.int (k:Int):=by
   unfold rng
   rw [show ((n:Int) - 0).toNat = n by omega]
   exact List.map_congr_left fun j _ => by rw [Int.zero_add]
 rw [hrm] at hr
 obtain ⟨t2,t3,lp⟩:=z0_ hn hp hl (List.range n) [hdS n] .un .un (fun s hs => List.mem_range.mp hs) (by simp; omega)
 rw [← vz_] at lp
 have ej:=kn_ (x:=PySem.Str.ofString "\n") (ys:=hdS n :: wh_ n ls) rfl (by
   have:=jab_ hn hp hl
   have q:(PySem.Str.ofString "\n").length = 1:=by decide +kernel
   rw [q]; exact this)
 rw [List.map_cons] at ej
 have h1z:([D.str (hdS n)]).length ≤ sizeLine:=by simp; omega
 unfold bLaw at lp
 rw [show ([hdS n] ++ wh_ n ls).map D.str = D.str (hdS n) :: (wh_ n ls).map D.str from rfl,show ([hdS n]).map D.str = [D.str (hdS n)] from rfl] at lp
 unfold wg_
 rw [vi_]
 simp! only [w0,yw_ sn,a1,h1z,hr,lp,wc_,kd_,ej]
 rw [q_nl]
 rfl
end FW
namespace FW
open DS FM PySem.StrLaws
open PySem (Str sizeLine)
noncomputable def qan_:Str:=PySem.Str.ofString "0123456789"
theorem zao_ (c:Nat):PySem.Txt.contains qan_ ⟨#[c]⟩ = (decide (48 ≤ c) && decide (c ≤ 57)):=by
 have q:qan_.cps.toList = [48,49,50,51,52,53,54,55,56,57]:=by decide +kernel
 unfold PySem.Txt.contains
 rw [found_one,q,Bool.eq_iff_iff]
 simp
 omega
noncomputable def numB (w:Str):Bool:=wl_ w && decide (intS (digV w) = w)
theorem j8_ {w:Str} (h:wl_ w = true):0 ≤ digV w ∧ digV w ≤ 99:=by
 unfold wl_ at h
 unfold digV
 rw [Bool.and_eq_true,Bool.and_eq_true,decide_eq_true_eq,decide_eq_true_eq] at h
 obtain ⟨⟨h1,h2⟩,h3⟩:=h
 have hl:w.cps.toList.length = w.length:=by simp [Str.length]
 generalize w.cps.toList = l at h3 hl ⊢
 match l,hl,h3 with
 | [],hl,_ => simp at hl; omega
 | [a],_,h3 =>
   simp at h3 ⊢
   omega
 | [a,b],_,h3 =>
   simp at h3 ⊢
   omega
 | a :: b :: c :: r,hl,_ => simp at hl; omega
theorem eqS (x y:Str):eqF (.str x) (.str y) = some (.bl (decide (x = y))):=by
 unfold eqF
 rw [kf_ (d:=.str x) (k:=0) ⟨0,by simp [dep],by omega⟩ (by omega),kf_ (d:=.str y) (k:=0) ⟨0,by simp [dep],by omega⟩ (by omega)]
 simp only [eqD,Bool.and_self,if_true]
 rfl
theorem neS (x y:Str):neF (.str x) (.str y) = some (.bl (!decide (x = y))):=by
 unfold neF
 rw [kf_ (d:=.str x) (k:=0) ⟨0,by simp [dep],by omega⟩ (by omega),kf_ (d:=.str y) (k:=0) ⟨0,by simp [dep],by omega⟩ (by omega)]
 simp only [eqD,Bool.and_self,if_true]
 rfl
theorem k8_ {w:Str} (h:wl_ w = true):intF [.str w] = some (.int (digV w)):=by
 show (if wl_ w = true then _ else _) = _
 rw [if_pos h]
theorem yao_ {w:Str} (h:w.length ≤ lim):lenS [.str w] = some (.int w.length):=by
 show (if _ then _ else _) = _
 rw [if_pos h]
noncomputable def bNum:FS:=(sq (sI (orT (tsB (op2 eqF (vr 2) (cst (.str (PySem.Str.ofString ""))))) (orT (tsB (op2 gtF (blt lenS (ya_ (vr 2) (nilA))) (cst (.int 2)))) (orT (notT (tst (blt allF (ya_ (yf_ (itS (vr 2)) (.nm 3) 1 (yes) (op2 inS (vr 3) (cst (.str (PySem.Str.ofString "0123456789"))))) (nilA))))) (tsB (op2 neF (blt strF (ya_ (blt intF (ya_ (vr 2) (nilA))) (nilA))) (vr 2)))))) (sR (cst .non)) (sNx)) (sP 1 (blt intF (ya_ (vr 2) (nilA)))))
theorem zau_ (a:Sl) (acc:List Int) (w:Str) (hw:w.length ≤ 1000) (ha:acc.length < 1000) :
   bNum [a,.ow (I acc),.sh (.str w)] = some (if numB w = true then ([a,.ow (I (acc ++ [digV w])),.sh (.str w)],.nx) else ([a,.ow (I acc),.sh (.str w)],.rt .non)):=by
 have hz:=kc_
 have hl:=yao_ (w:=w) (by rw [qe_]; omega)
 have lc:(ut_ w).length = w.length:=by unfold ut_; simp [Str.length]
 have c:yf_ (itS (vr 2)) (.nm 3) 1 (yes) (op2 inS (vr 3) (cst (.str (PySem.Str.ofString "0123456789")))) [a,.ow (I acc),.sh (.str w)] = some ([a,.ow (I acc),.sh (.str w)],.ok (.lst (w.cps.toList.map fun c => .bl (decide (48 ≤ c) && decide (c ≤ 57))))):=by
   rw [vh_ (fun d => match d with | .str x => .bl (PySem.Txt.contains qan_ x) | _ => .non) (ds:=ut_ w) ?a ?b ?h ?c]
   case h => rfl
   case a =>
     simp! only [xbg_,kd_,Option.bind_some]
     rw [if_pos (by rw [qe_]; omega)]
     rfl
   case b => rw [lc]; omega
   case c =>
     intro d hd
     obtain ⟨x,_,rfl⟩:=List.mem_map.mp hd
     simp! only [inS,kd_]
     rfl
   congr 4
   unfold ut_
   rw [List.map_map]
   exact List.map_congr_left fun c _ => by rw [Function.comp]; simp only [zao_]
 have al:=vq_ (fun c:Nat => decide (48 ≤ c) && decide (c ≤ 57)) w.cps.toList
 have hlt:(I acc).length < sizeLine:=by simp; omega
 have e0:PySem.Str.ofString "" = Str.empty:=by decide +kernel
 have e0l:(Str.empty).length = 0:=rfl
 have eq0:=eqS w (PySem.Str.ofString "")
 unfold bNum
 by_cases h0:w = PySem.Str.ofString ""
 · have:numB w = false:=by
     rw [h0]
     decide +kernel
   rw [this]
   simp only [h0,decide_true] at eq0
   subst h0
   simp! only [eq0]
 have p0:decide (w = PySem.Str.ofString "") = false:=decide_eq_false h0
 rw [p0] at eq0
 have l0:0 < w.length:=by
   rcases Nat.eq_zero_or_pos w.length with q | q
   · exact absurd (by rw [e0]; exact wk_ (by rw [List.eq_nil_of_length_eq_zero (l:=w.cps.toList) (by simpa [Str.length] using q)]; rfl)) h0
   · exact q
 by_cases h2:(2:Int) < w.length
 · have:numB w = false:=by
     unfold numB wl_
     rw [show decide (w.length ≤ 2) = false from decide_eq_false (by omega)]
     simp
   rw [this]
   have g2:gtF (.int w.length) (.int 2) = some (.bl true):=by show some (D.bl (decide _)) = _; rw [decide_eq_true h2]
   simp! only [eq0,hl,g2]
 have g2:gtF (.int w.length) (.int 2) = some (.bl false):=by show some (D.bl (decide _)) = _; rw [decide_eq_false h2]
 cases h3:w.cps.toList.all (fun c => decide (48 ≤ c) && decide (c ≤ 57)) with
 | false =>
   have:numB w = false:=by
     unfold numB wl_
     rw [h3]
     simp
   rw [this]
   rw [h3] at al
   simp! only [eq0,hl,g2,c,al]
 | true =>
   have hd:wl_ w = true:=by
     unfold wl_
     rw [h3,decide_eq_true l0,decide_eq_true (show w.length ≤ 2 by omega)]
     rfl
   rw [h3] at al
   have hi:=k8_ hd
   have hb:=j8_ hd
   have hs:=yw_ (i:=digV w) (zk_.mpr (by omega))
   have hn:=neS (intS (digV w)) w
   unfold numB
   rw [hd,Bool.true_and]
   cases h4:decide (intS (digV w) = w) with
   | false =>
     rw [h4] at hn
     simp! only [eq0,hl,g2,c,al,hi,hs,hn]
   | true =>
     rw [h4] at hn
     simp! only [eq0,hl,g2,c,al,hi,hs,hn,hlt,List.map_append]
theorem vab_ (a:Sl):∀ (ws:List Str) (acc:List Int) (t2:Sl),(∀ w ∈ ws,w.length ≤ 1000)→acc.length + ws.length ≤ 1000 →
   (ws.all numB = false→∃ ρ',forL (.nm 2) bNum (ws.map D.str) [a,.ow (I acc),t2] = some (ρ',.rt .non)) ∧
   (ws.all numB = true→∃ t2',forL (.nm 2) bNum (ws.map D.str) [a,.ow (I acc),t2] = some ([a,.ow (I (acc ++ ws.map digV)),t2'],.nx))
 | [],acc,t2,_,_ => ⟨fun h => (nomatch h),fun _ => ⟨t2,by simp [forL]⟩⟩
 | w :: ws,acc,t2,hw,hc => by
   rw [List.length_cons] at hc
   have e:=zau_ a acc w (hw w (by simp)) (by omega)
   show (_→∃ ρ',forL _ _ (D.str w :: ws.map D.str) _ = _) ∧ (_→∃ t2',forL _ _ (D.str w :: ws.map D.str) _ = _)
   rw [List.all_cons]
   cases q:numB w with
   | false =>
     rw [q] at e
     exact ⟨fun _ => ⟨_,yy_ e⟩,fun h => (nomatch h)⟩
   | true =>
     rw [q,if_pos rfl] at e
     obtain ⟨h1,h2⟩:=vab_ a ws (acc ++ [digV w]) (.sh (.str w)) (fun x hx => hw x (by simp [hx])) (by simp; omega)
     have e':bNum ([a,.ow (I acc),t2].set 2 (.sh (.str w))) = _:=e
     rw [yd_ e',Bool.true_and]
     refine ⟨h1,fun h => ?_⟩
     obtain ⟨t,e2⟩:=h2 h
     exact ⟨t,by rw [e2,List.append_assoc]; rfl⟩
theorem uf_ {ws:List Str} (hw:∀ w ∈ ws,w.length ≤ 1000) (hl:ws.length ≤ 1000):yc_ [.lst (ws.map D.str)] = some (.ok (if ws.all numB = true then .lst (I (ws.map digV)) else .non)):=by
 have hz:=kc_
 have hnil:([]:List D).length ≤ sizeLine:=by simp
 obtain ⟨h1,h2⟩:=vab_ (.sh (.lst (ws.map D.str))) ws [] .un hw (by simpa using hl)
 unfold bNum at h1 h2
 rw [show I ([]:List Int) = [] from rfl] at h1 h2
 unfold yc_
 rw [vi_]
 cases q:ws.all numB with
 | false =>
   obtain ⟨ρ',e⟩:=h1 q
   simp! only [hnil,e]
 | true =>
   obtain ⟨t,e⟩:=h2 q
   rw [List.nil_append] at e
   simp! only [hnil,e]
noncomputable def cosp:Str:=PySem.Str.ofString ": "
theorem qax_:cosp.cps.toList = [58,32]:=by decide +kernel
theorem yau_ (x:Str):¬ PySem.Builtin.Str.strKind x < 1:=by
 unfold PySem.Builtin.Str.strKind
 split
 · omega
 · split <;> omega
theorem jbg_ {l:List Nat} {i:Nat}:∀ {a b:List Nat},l = a ++ 58 :: 32 :: b→¬ 58 ∈ a→¬ 58 ∈ b→l[i]? = some 58→i = a.length:=by
 intro a b e ha hb h
 subst e
 rcases Nat.lt_trichotomy i a.length with q | q | q
 · rw [List.getElem?_append_left q] at h
   exact absurd (List.mem_of_getElem? h) ha
 · exact q
 · rw [List.getElem?_append_right (by omega)] at h
   obtain ⟨j,hj⟩:∃ j,i - a.length = j + 1:=⟨i - a.length - 1,by omega⟩
   rw [hj,List.getElem?_cons_succ] at h
   cases j with
   | zero => simp at h
   | succ j =>
     rw [List.getElem?_cons_succ] at h
     exact absurd (List.mem_of_getElem? h) hb
theorem xao_ {a b:Str} (ha:¬ 58 ∈ a.cps.toList) (hb:¬ 58 ∈ b.cps.toList):PySem.Txt.split ((a ++ cosp) ++ b) cosp = [a,b]:=by
 have hx:((a ++ cosp) ++ b).cps.toList = a.cps.toList ++ 58 :: 32 :: b.cps.toList:=by
   rw [ug_,ug_,qax_]
   simp
 have c2:cosp.length = 2:=by decide +kernel
 have hlen:((a ++ cosp) ++ b).length = a.length + 2 + b.length:=by rw [qc_,qc_,c2]
 generalize hX:(a ++ cosp) ++ b = x at hx hlen
 have la:a.cps.toList.length = a.length:=by simp [Str.length]
 have lb:b.cps.toList.length = b.length:=by simp [Str.length]
 have hat:∀ i,At x cosp x.length i ↔ i = a.length:=by
   intro i
   unfold At
   rw [subAt_eq,c2,qax_,hx,hlen,beq_iff_eq]
   constructor
   · rintro ⟨h1,h2⟩
     have:(a.cps.toList ++ 58 :: 32 :: b.cps.toList)[i]? = some 58:=by
       have:=congrArg (fun l => l[0]?) h2
       simpa [List.getElem?_take,List.getElem?_drop] using this
     rw [← la]
     exact jbg_ rfl ha hb this
   · rintro rfl
     refine ⟨by omega,?_⟩
     rw [← la,List.drop_left]
     rfl
 have hocc:PySem.Builtin.Str.occurrences x cosp 0 x.length (x.length + 1) = [a.length]:=by
   obtain ⟨f,h1,h2⟩:=occ_tight x cosp (by omega)
   generalize PySem.Builtin.Str.occurrences x cosp 0 x.length (x.length + 1) = os at h1
   match os,h1 with
   | [],h1 =>
     have:f = 0:=h1
     exact absurd ((hat a.length).mpr rfl) (h2 _ (by omega))
   | [c],h1 => rw [(hat c).mp h1.2.1]
   | c :: d :: r,h1 =>
     have e1:=(hat c).mp h1.2.1
     have e2:=(hat d).mp h1.2.2.2.2.1
     have e3:=h1.2.2.2.1
     rw [c2] at e3
     omega
 have k1:PySem.Builtin.Str.strKind cosp = 1:=by decide +kernel
 unfold PySem.Txt.split
 rw [if_neg (by rw [Bool.or_eq_true,decide_eq_true_eq,decide_eq_true_eq,k1,c2]; exact fun h => h.elim (by omega) (yau_ x)),hocc,if_neg (by simp),partsBetween_eq,c2]
 show [PySem.Builtin.Str.strSub x 0 a.length,PySem.Builtin.Str.strSub x (a.length + 2) x.length] = _
 congr 1
 · refine wk_ ?_
   rw [strSub_toList,hx,List.drop_zero,Nat.sub_zero,← la,List.take_left]
 · congr 1
   refine wk_ ?_
   rw [strSub_toList,hx,hlen,← la,← List.drop_drop,List.drop_left]
   exact List.take_of_length_le (by simp [Str.length])
end FW
namespace FW
open DS FM PySem.StrLaws
open PySem (Str sizeLine)
theorem wt {x y:Str} (hy:1 ≤ y.length):((PySem.Txt.split x y).map (·.length)).sum + (PySem.Txt.split x y).length ≤ x.length + 1:=PyProof.Rows.split_weight x y hy
theorem yr_ {x y p:Str} (hy:1 ≤ y.length) (h:p ∈ PySem.Txt.split x y):p.length ≤ x.length:=by
 have h1:=wt (x:=x) hy
 obtain ⟨w,ws,e⟩:=je_ x y
 have:p.length ≤ ((PySem.Txt.split x y).map (·.length)).sum:=jan_ (List.mem_map.mpr ⟨p,h,rfl⟩)
 have:1 ≤ (PySem.Txt.split x y).length:=by rw [e]; simp
 omega
noncomputable def tRow (r:Str):Option (List Pr):=match PySem.Txt.split r cosp with
 | [p,q] => if (numB p && (PySem.Txt.split q sp).all numB) = true then some ((PySem.Txt.split q sp).map fun w => (digV p,digV w)) else none
 | _ => none
noncomputable def tAll:List Str→Option (List Pr)
 | [] => some []
 | r :: rs => (tRow r).bind fun a => (tAll rs).map (a ++ ·)
noncomputable def tC:M D:=(yf_ (itE (opS jj_ (op2 ixD (vr 5) (cst (.int 1))) (cst (.str (PySem.Str.ofString " "))))) (.nm 9) 1 (yes) (tupE (ya_ (blt intF (ya_ (op2 ixD (vr 5) (cst (.int 0))) (nilA))) (ya_ (blt intF (ya_ (vr 9) (nilA))) (nilA)))))
noncomputable def bTry:FS:=(sq (sA (.nm 5) (opS jj_ (vr 4) (cst (.str (PySem.Str.ofString ": "))))) (sq (sI (orT (tsB (op2 neF (blt lenF (ya_ (vr 5) (nilA))) (cst (.int 2)))) (orT (tsB (op1 isN (cal yc_ (ya_ (slE (vr 5) none (some (cst (.int 1)))) (nilA))))) (tsB (op1 isN (cal yc_ (ya_ (opS jj_ (op2 ixD (vr 5) (cst (.int 1))) (cst (.str (PySem.Str.ofString " ")))) (nilA))))))) (sR (cst .non)) (sNx)) (sA (.nm 3) (op2 addD (vr 3) tC))))
theorem jaf_ (xs:List D):isN (.lst xs) = some (.bl false):=rfl
theorem xau_ (a b c t5 t6 t7 t8:Sl) (acc:List Pr) (r:Str) (hr:r.length ≤ 500) (ha:acc.length ≤ 1000) :
   ∃ ρ,bTry [a,b,c,.sh (.lst (L acc)),.sh (.str r),t5,t6,t7,t8] = some (match tRow r with | some ls => ([a,b,c,.sh (.lst (L (acc ++ ls))),.sh (.str r),.sh (.lst ((PySem.Txt.split r cosp).map D.str)),t6,t7,t8],.nx) | none => (ρ,.rt .non)):=by
 have hz:=kc_
 have qc:PySem.Str.ofString ": " = cosp:=rfl
 have c2:cosp.length = 2:=by decide +kernel
 have s1:sp.length = 1:=rfl
 have hs:=yl_ (x:=r) (y:=cosp) (by omega) (by rw [qe_]; omega)
 have hw:=wt (x:=r) (y:=cosp) (by omega)
 have hp:∀ p ∈ PySem.Txt.split r cosp,p.length ≤ r.length:=fun p h => yr_ (by omega) h
 unfold tRow bTry
 rw [qc,q_sp]
 generalize PySem.Txt.split r cosp = ps at hs hw hp
 refine ⟨[a,b,c,.sh (.lst (L acc)),.sh (.str r),.sh (.lst (ps.map D.str)),t6,t7,t8],?_⟩
 by_cases h2:ps.length = 2
 · match ps,h2 with
   | [p,q],_ =>
     have lp:=hp p (by simp)
     have lq:=hp q (by simp)
     have hn0:=uf_ (ws:=[p]) (fun w hw => by rw [List.mem_singleton.mp hw]; omega) (by simp)
     have hsq:=yl_ (x:=q) (y:=sp) (by omega) (by rw [qe_]; omega)
     have hwq:=wt (x:=q) (y:=sp) (by omega)
     have hn1:=uf_ (ws:=PySem.Txt.split q sp) (fun w hw => by have:=yr_ (y:=sp) (by omega) hw; omega) (by omega)
     have i0:ixD (.lst [D.str p,.str q]) (.int 0) = some (.str p):=rfl
     have i1:ixD (.lst [D.str p,.str q]) (.int 1) = some (.str q):=rfl
     have sl:slD (.lst [D.str p,.str q]) none (some 1) = some (.lst [D.str p]):=rfl
     have n2:lenF [.lst [D.str p,.str q]] = some (.int 2):=rfl
     have e2:neF (.int 2) (.int 2) = some (.bl false):=rfl
     simp only [List.map_cons,List.map_nil,List.all_cons,List.all_nil,Bool.and_true] at hs hn0
     dsimp only
     simp only [List.map_cons,List.map_nil]
     cases q0:numB p with
     | false =>
       rw [q0] at hn0
       simp only [Bool.false_eq_true,if_false] at hn0
       simp! only [wc_,kd_,hs,n2,e2,jh_,sl,hn0,Bool.false_and]
     | true =>
       rw [q0] at hn0
       simp only [if_true] at hn0
       cases q1:(PySem.Txt.split q sp).all numB with
       | false =>
         rw [q1] at hn1
         simp only [Bool.false_eq_true,if_false] at hn1
         simp! only [wc_,kd_,hs,n2,e2,jh_,sl,hn0,jaf_,i1,hsq,hn1,Bool.and_false]
       | true =>
         rw [q1] at hn1
         simp only [if_true] at hn1
         have d0:wl_ p = true:=by unfold numB at q0; rw [Bool.and_eq_true] at q0; exact q0.1
         have ic:=k8_ d0
         have cx:tC [a,b,c,.sh (.lst (L acc)),.sh (.str r),.sh (.lst [D.str p,.str q]),t6,t7,t8] = some ([a,b,c,.sh (.lst (L acc)),.sh (.str r),.sh (.lst [D.str p,.str q]),t6,t7,t8],.ok (.lst (L ((PySem.Txt.split q sp).map fun w => (digV p,digV w))))):=by
           unfold tC
           rw [q_sp]
           rw [vh_ (fun d => match d with | .str x => .tup [.int (digV p),.int (digV x)] | _ => .non) (ds:=(PySem.Txt.split q sp).map D.str) ?xa ?xb ?xh ?xc]
           case xh => rfl
           case xa => simp! only [wc_,kd_,i1,hsq]
           case xb => simp; omega
           case xc =>
             intro d hd
             obtain ⟨x,hx,rfl⟩:=List.mem_map.mp hd
             have dx:=List.all_eq_true.mp q1 x hx
             unfold numB at dx
             rw [Bool.and_eq_true] at dx
             have ix:=k8_ dx.1
             simp! only [i0,ic,ix]
           simp only [L,List.map_map]
           rfl
         have hlt:(L acc).length + (L ((PySem.Txt.split q sp).map fun w => (digV p,digV w))).length ≤ sizeLine:=by simp; omega
         have ad:addD (.lst (L acc)) (.lst (L ((PySem.Txt.split q sp).map fun w => (digV p,digV w)))) = some (.lst (L (acc ++ (PySem.Txt.split q sp).map fun w => (digV p,digV w)))):=by
           show (if _ then _ else _) = _
           rw [if_pos hlt]
           exact congrArg (fun l => some (D.lst l)) List.map_append.symm
         simp! only [wc_,kd_,hs,n2,e2,jh_,sl,hn0,jaf_,i1,hsq,hn1,Bool.and_true,cx,ad]
 · have e2:neF (.int ((ps.map D.str).length:Nat)) (.int 2) = some (.bl true):=by
     show some (D.bl (!decide _)) = _
     rw [decide_eq_false (by simp; omega)]
     rfl
   have n2:lenF [.lst (ps.map D.str)] = some (.int ((ps.map D.str).length:Nat)):=rfl
   have:(match ps with
       | [p,q] => if (numB p && (PySem.Txt.split q sp).all numB) = true then some ((PySem.Txt.split q sp).map fun w => (digV p,digV w)) else none
       | _ => none) = none:=by
     match ps,h2 with
     | [],_ => rfl
     | [_],_ => rfl
     | [_,_],h => exact absurd rfl h
     | _ :: _ :: _ :: _,_ => rfl
   rw [this]
   simp! only [wc_,kd_,hs,n2,e2]
theorem wau_ {r:Str} {ls:List Pr} (h:tRow r = some ls):ls.length ≤ r.length + 1:=by
 have c2:cosp.length = 2:=by decide +kernel
 have hp:∀ p ∈ PySem.Txt.split r cosp,p.length ≤ r.length:=fun p h => yr_ (by omega) h
 unfold tRow at h
 split at h
 · rename_i p q e
   split at h
   · cases h
     have lq:=hp q (by rw [e]; simp)
     have hwq:=wt (x:=q) (y:=sp) (by decide)
     simp
     omega
   · cases h
 · cases h
theorem uab_ (a b c t6 t7 t8:Sl):∀ (rs:List Str) (acc:List Pr) (t4 t5:Sl),(∀ r ∈ rs,r.length ≤ 500)→acc.length + (rs.map (·.length)).sum + rs.length ≤ 1000 →
   (tAll rs = none→∃ ρ',forL (.nm 4) bTry (rs.map D.str) [a,b,c,.sh (.lst (L acc)),t4,t5,t6,t7,t8] = some (ρ',.rt .non)) ∧
   (∀ ls,tAll rs = some ls→ls.length ≤ (rs.map (·.length)).sum + rs.length ∧ ∃ t4' t5',forL (.nm 4) bTry (rs.map D.str) [a,b,c,.sh (.lst (L acc)),t4,t5,t6,t7,t8] = some ([a,b,c,.sh (.lst (L (acc ++ ls))),t4',t5',t6,t7,t8],.nx))
 | [],acc,t4,t5,_,_ => ⟨fun h => (nomatch h),fun ls h => by cases h; exact ⟨by simp,t4,t5,by simp [forL]⟩⟩
 | r :: rs,acc,t4,t5,hr,hc => by
   simp only [List.map_cons,List.sum_cons,List.length_cons] at hc
   obtain ⟨ρ,e⟩:=xau_ a b c t5 t6 t7 t8 acc r (hr r (by simp)) (by omega)
   have e':bTry ([a,b,c,.sh (.lst (L acc)),t4,t5,t6,t7,t8].set 4 (.sh (.str r))) = _:=e
   show (_→∃ ρ',forL _ _ (D.str r :: rs.map D.str) _ = _) ∧ (∀ ls,_→_ ∧ ∃ t4' t5',forL _ _ (D.str r :: rs.map D.str) _ = _)
   unfold tAll
   cases q:tRow r with
   | none =>
     rw [q] at e'
     exact ⟨fun _ => ⟨_,yy_ e'⟩,fun ls h => (nomatch h)⟩
   | some ls =>
     rw [q] at e'
     have ll:=wau_ q
     rw [yd_ e',Option.bind_some]
     obtain ⟨h1,h2⟩:=uab_ a b c t6 t7 t8 rs (acc ++ ls) (.sh (.str r)) (.sh (.lst ((PySem.Txt.split r cosp).map D.str))) (fun x hx => hr x (by simp [hx])) (by simp; omega)
     refine ⟨fun h => h1 (Option.map_eq_none_iff.mp h),fun ms h => ?_⟩
     obtain ⟨us,e4,rfl⟩:=Option.map_eq_some_iff.mp h
     obtain ⟨l5,t4',t5',e5⟩:=h2 us e4
     exact ⟨by simp; omega,t4',t5',by rw [e5,List.append_assoc]⟩
noncomputable def zq_ (t:Str):Option (Nat × List Pr):=match PySem.Txt.split t nl with
 | [] => none
 | r0 :: rs => if (decide (PySem.Txt.slice r0 none (some 6) = zi_) && numB (PySem.Txt.slice r0 (some 6) none)) = true then (tAll rs).bind fun ls => if (yj_ (digV (PySem.Txt.slice r0 (some 6) none)) (ls.map pr) && decide (txt (digV (PySem.Txt.slice r0 (some 6) none)).toNat ls = t)) = true then some ((digV (PySem.Txt.slice r0 (some 6) none)).toNat,ls) else none else none
theorem yu_ {t:Str} (ht:t.length ≤ 400):zj_ [.str t] = some (.ok (match zq_ t with | some p => web p.1 p.2 | none => .non)):=by
 have hz:=kc_
 have hs:=yl_ (x:=t) (y:=nl) (by decide) (by rw [qe_]; omega)
 obtain ⟨r0,rs,e⟩:=je_ t nl
 have hpl:=wt (x:=t) (y:=nl) (by decide)
 have hle:∀ r ∈ PySem.Txt.split t nl,r.length ≤ t.length:=fun r hr => yr_ (by decide) hr
 rw [e] at hs hpl hle
 simp only [List.map_cons,List.sum_cons,List.length_cons] at hpl
 have hx:ixD (.lst ((r0 :: rs).map D.str)) (.int 0) = some (.str r0):=um_ _ _
 have hsl:slD (.lst ((r0 :: rs).map D.str)) (some 1) none = some (.lst (rs.map D.str)):=by
   show some (D.lst (cut ((r0 :: rs).map D.str) (some 1) none)) = _
   rw [show (1:Int) = ((1:Nat):Int) from rfl,zr_ _ _ (by simp)]
   rfl
 rw [List.map_cons] at hs hx hsl
 have qs:PySem.Str.ofString "spots " = zi_:=rfl
 have hnil:([]:List D).length ≤ sizeLine:=by simp
 have l0:=hle r0 (by simp)
 generalize hw0:PySem.Txt.slice r0 (some 6) none = w0
 have lw0:w0.length ≤ r0.length:=by rw [← hw0]; exact PySem.Txt.slice_le _ _ _
 have hn0:=uf_ (ws:=[w0]) (fun w hw => by rw [List.mem_singleton.mp hw]; omega) (by simp)
 simp only [List.map_cons,List.map_nil,List.all_cons,List.all_nil,Bool.and_true] at hn0
 have s6:=xp_ (x:=r0) (by omega) (some 6) none
 rw [hw0] at s6
 have t6:=xp_ (x:=r0) (by omega) none (some 6)
 have ne6:=neS (PySem.Txt.slice r0 none (some 6)) zi_
 unfold zq_
 rw [e]
 dsimp only
 rw [hw0]
 unfold zj_
 rw [vi_,q_nl,qs]
 cases q1:decide (PySem.Txt.slice r0 none (some 6) = zi_) with
 | false =>
   rw [q1] at ne6
   cases q0:numB w0 with
   | false =>
     rw [q0] at hn0
     simp only [Bool.false_eq_true,if_false] at hn0
     simp! only [wc_,kd_,hs,hx,wd_,jh_,s6,t6,hn0,ne6,Bool.false_and]
   | true =>
     rw [q0] at hn0
     simp only [if_true] at hn0
     simp! only [wc_,kd_,hs,hx,wd_,jh_,s6,t6,hn0,ne6,Bool.false_and]
 | true =>
   rw [q1] at ne6
   cases q0:numB w0 with
   | false =>
     rw [q0] at hn0
     simp only [Bool.false_eq_true,if_false] at hn0
     simp! only [wc_,kd_,hs,hx,wd_,jh_,s6,t6,hn0,ne6,Bool.and_false]
   | true =>
     rw [q0] at hn0
     simp only [if_true] at hn0
     have d0:wl_ w0 = true:=by unfold numB at q0; rw [Bool.and_eq_true] at q0; exact q0.1
     have dv:=j8_ d0
     generalize digV w0 = v at hn0 dv
     obtain ⟨n,rfl⟩:∃ n:Nat,v = n:=⟨v.toNat,by omega⟩
     rw [show ((n:Int)).toNat = n by omega]
     have i0:ixD (.lst [D.int (n:Int)]) (.int 0) = some (.int (n:Int)):=rfl
     have hlp:=uab_ (.sh (.str t)) (.sh (.lst (D.str r0 :: rs.map D.str))) (.sh (.lst [D.int (n:Int)])) .un .un .un rs [] .un .un (fun r hr => by have:=hle r (by simp [hr]); omega) (by simp; omega)
     unfold bTry tC at hlp
     rw [show L ([]:List Pr) = [] from rfl] at hlp
     simp only [Bool.and_self,if_true]
     cases q3:tAll rs with
     | none =>
       obtain ⟨ρ',el⟩:=hlp.1 q3
       simp! only [wc_,kd_,hs,hx,wd_,jh_,s6,t6,hn0,jaf_,ne6,hsl,el,Option.bind_none]
     | some ls =>
       obtain ⟨ll,t4,t5,el⟩:=hlp.2 ls q3
       rw [List.nil_append] at el
       have lk:=jn_ (n:=(n:Int)) (lls:=ls.map pr) (by simp; omega) (vax_ (ls:=ls))
       rw [← kax_] at lk
       have lk:wf_ [.tup [.int (n:Int),.lst (L ls)]] = _:=lk
       have sw:(clss.contains "BadWeb" && sup "BadWeb" "BadWeb") = true:=rfl
       rw [Option.bind_some]
       cases q4:yj_ n (ls.map pr) with
       | false =>
         rw [q4] at lk
         simp only [Bool.false_eq_true,if_false] at lk
         simp! only [wc_,kd_,hs,hx,wd_,jh_,s6,t6,hn0,jaf_,ne6,hsl,el,i0,lk,sw,ya6_,Bool.false_and]
       | true =>
         rw [q4] at lk
         simp only [if_true] at lk
         have w:=xl_.mp q4
         have n10:=w.n10
         have et:=un_ (n:=n) (ls:=ls) n10 (fun p hp => ⟨by have:=w.ln p hp; omega,by have:=w.ln p hp; omega⟩) (by omega)
         have et:wg_ [.tup [.int (n:Int),.lst (L ls)]] = _:=et
         have es:=eqS (txt n ls) t
         cases q5:decide (txt n ls = t) with
         | false =>
           rw [q5] at es
           simp! only [wc_,kd_,hs,hx,wd_,jh_,s6,t6,hn0,jaf_,ne6,hsl,el,i0,lk,et,es,Bool.and_false]
         | true =>
           rw [q5] at es
           simp! only [wc_,kd_,hs,hx,wd_,jh_,s6,t6,hn0,jaf_,ne6,hsl,el,i0,lk,et,es,Bool.and_true]
           rfl
end FW
namespace FW
open DS FM PySem.StrLaws
open PySem (Str sizeLine)
theorem qab_:∀ k,k < 11→numB (intS (k:Nat)) = true ∧ digV (intS (k:Nat)) = (k:Nat):=by decide +kernel
theorem jau_:∀ n,n < 11→PySem.Txt.slice (hdS (n:Nat)) none (some 6) = zi_ ∧ PySem.Txt.slice (hdS (n:Nat)) (some 6) none = intS (n:Nat):=by decide +kernel
theorem zac_ {x:Int} (h:In10 x):numB (intS x) = true ∧ digV (intS x) = x:=by
 obtain ⟨h0,h1⟩:=h
 obtain ⟨k,rfl⟩:∃ k:Nat,x = k:=⟨x.toNat,by omega⟩
 exact qab_ k (by omega)
theorem kau_ {s x:Int} {xs:List Int} (hs:In10 s) (hx:∀ y ∈ x :: xs,In10 y):tRow (rowS s (x :: xs)) = some ((x :: xs).map fun y => (s,y)):=by
 have f1:∀ y,In10 y→¬ 32 ∈ (intS y).cps.toList ∧ ¬ 58 ∈ (intS y).cps.toList ∧ ¬ 10 ∈ (intS y).cps.toList:=fun y hy => zl_ hy.1 (by have:=hy.2; omega)
 have e1:PySem.Txt.split (rowS s (x :: xs)) cosp = [intS s,Str.join sp ((x :: xs).map intS)]:=by
   rw [← uan_]
   exact xao_ (f1 s hs).2.1 (qs_ (c:=32) (by decide) fun p hp => by
     obtain ⟨y,hy,rfl⟩:=List.mem_map.mp hp
     exact (f1 y (hx y hy)).2.1)
 have e2:PySem.Txt.split (Str.join sp ((x :: xs).map intS)) sp = (x :: xs).map intS:=qo_ 32 (by simp) fun p hp => by
   obtain ⟨y,hy,rfl⟩:=List.mem_map.mp hp
   exact (f1 y (hx y hy)).1
 unfold tRow
 rw [e1]
 dsimp only
 rw [e2,if_pos (by
   rw [(zac_ hs).1,Bool.true_and,List.all_eq_true]
   intro p hp
   obtain ⟨y,hy,rfl⟩:=List.mem_map.mp hp
   exact (zac_ (hx y hy)).1),List.map_map]
 congr 1
 exact List.map_congr_left fun y hy => by
   show (digV (intS s),digV (intS y)) = _
   rw [(zac_ hs).2,(zac_ (hx y hy)).2]
theorem vau_ {n:Nat} {ls:List Pr} (h:Wr n ls):tAll (wh_ n ls) = some ls:=by
 have h10:=h.n10
 have key:∀ l:List Nat,(∀ s ∈ l,s < n)→tAll (l.filterMap fun (s:Nat) => if (gtI ls s).isEmpty = true then none else some (rowS s (gtI ls s))) = some (l.flatMap fun (s:Nat) => (gtI ls s).map fun x => ((s:Int),x)):=by
   intro l
   induction l with
   | nil => intro _; rfl
   | cons s l ih =>
     intro hl
     have ih:=ih fun x hx => hl x (by simp [hx])
     have hs:=hl s (by simp)
     rw [List.filterMap_cons,List.flatMap_cons]
     have hg:=h.gt10 (s:Int)
     cases q:gtI ls s with
     | nil => simpa using ih
     | cons x xs =>
       rw [q] at hg
       simp only [List.isEmpty_cons,Bool.false_eq_true,if_false]
       show (tRow (rowS s (x :: xs))).bind _ = _
       rw [kau_ ⟨by omega,by omega⟩ hg,Option.bind_some,ih]
       rfl
 have:=key (List.range n) fun s hs => List.mem_range.mp hs
 rw [ybg_ h] at this
 exact this
theorem q4_ {t:Str} {n:Nat} {ls:List Pr}:zq_ t = some (n,ls) ↔ Wr n ls ∧ t = txt n ls:=by
 constructor
 · intro h
   unfold zq_ at h
   split at h
   · cases h
   · rename_i r0 rs e
     split at h
     · rename_i hc
       obtain ⟨ks,h2,h⟩:=Option.bind_eq_some_iff.mp h
       split at h
       · rename_i hh
         cases h
         rw [Bool.and_eq_true,decide_eq_true_eq] at hh
         rw [Bool.and_eq_true] at hc
         have d0:wl_ (PySem.Txt.slice r0 (some 6) none) = true:=by have:=hc.2; unfold numB at this; rw [Bool.and_eq_true] at this; exact this.1
         have:=j8_ d0
         refine ⟨xl_.mp ?_,hh.2.symm⟩
         rw [show (((digV (PySem.Txt.slice r0 (some 6) none)).toNat:Nat):Int) = digV (PySem.Txt.slice r0 (some 6) none) by omega]
         exact hh.1
       · cases h
     · cases h
 · rintro ⟨w,rfl⟩
   have h10:=w.n10
   obtain ⟨e1,e2⟩:=jau_ n (by omega)
   obtain ⟨e3,e4⟩:=qab_ n (by omega)
   unfold zq_
   rw [zab_ w]
   dsimp only
   rw [e1,e2,e3,e4,if_pos (by simp),vau_ w,Option.bind_some,show ((n:Int)).toNat = n by omega,if_pos (by rw [xl_.mpr w]; simp)]
theorem kaf_ (t:Str):w8_ t = zq_ t:=by
 cases q:zq_ t with
 | some p => exact qz_.mpr (q4_.mp q)
 | none =>
   cases q2:w8_ t with
   | none => rfl
   | some p =>
     have:=q4_.mpr (qz_.mp q2)
     rw [q] at this
     cases this
theorem va6_ {n:Nat} {ls:List Pr} (h:Wr n ls) (h7:n ≤ 7):(txt n ls).length ≤ 300:=by
 have jl:=vn_ 10 (hdS n :: wh_ n ls) (by simp)
 have hd:(hdS n).length ≤ 8:=by
   have:=ve_ (x:=(n:Int)) (by omega) (by omega)
   have c6:zi_.length = 6:=by decide +kernel
   unfold hdS
   rw [qc_]
   omega
 have hr:∀ r ∈ wh_ n ls,r.length ≤ 24:=fun r hr => by
   obtain ⟨s,hs,rfl⟩:=z4_ h hr
   have:=xan_ (s:=(s:Int)) ⟨by omega,by omega⟩ (h.gt10 s)
   have r2:=wv_ (a:=0) (n:=7) (zbg_ h (s:Int)) fun x hx => by
     obtain ⟨p,hp,rfl⟩:=List.mem_map.mp hx
     have:=h.ln p (List.mem_filter.mp hp).1
     omega
   omega
 have hs:=j4_ (wh_ n ls) hr
 have hl:(wh_ n ls).length ≤ n:=by
   have:=List.length_filterMap_le (fun (s:Nat) => if (gtI ls s).isEmpty = true then none else some (rowS s (gtI ls s))) (List.range n)
   rw [List.length_range] at this
   exact this
 simp only [List.map_cons,List.sum_cons,List.length_cons] at jl
 show (Str.join nl _).length ≤ _
 unfold nl
 omega
noncomputable def alph:Str:=PySem.Str.ofString "0123 :\nspt7"
noncomputable def bMut:FS:=(sq (sA (.nm 4) (cal uc_ (ya_ (vr 0) (ya_ (op2 addD (cst (.int 91)) (vr 3)) (nilA))))) (sq (sA (.nm 5) (op2 modD (op2 fdvD (vr 4) (cst (.int 8))) (op2 addD (blt lenS (ya_ (vr 2) (nilA))) (cst (.int 1))))) (sq (sA (.nm 6) (op2 ixS (cst (.str (PySem.Str.ofString "0123 :\nspt7"))) (op2 modD (op2 fdvD (vr 4) (cst (.int 4096))) (cst (.int 11))))) (sq (sA (.nm 7) (lstE (ya_ (op2 addD (op2 addD (slSE (vr 2) none (some (vr 5))) (vr 6)) (slSE (vr 2) (some (vr 5)) none)) (ya_ (op2 addD (op2 addD (slSE (vr 2) none (some (vr 5))) (vr 6)) (slSE (vr 2) (some (op2 addD (vr 5) (cst (.int 1)))) none)) (ya_ (op2 addD (slSE (vr 2) none (some (vr 5))) (slSE (vr 2) (some (op2 addD (vr 5) (cst (.int 1)))) none)) (nilA)))))) (sA (.nm 2) (op2 ixD (vr 7) (op2 modD (vr 4) (cst (.int 3)))))))))
theorem kbg_ {s:Str} (hl:s.length ≤ lim) {j:Int} (h0:0 ≤ j) (h:j < s.length):∃ o:Str,ixS (.str s) (.int j) = some (.str o) ∧ o.length = 1:=by
 have hx:ixS (.str s) (.int j) = (if s.length ≤ lim then (atI s.cps.toList j).map fun c => D.str ⟨#[c]⟩ else none):=rfl
 have hs:s.cps.toList.length = s.length:=by simp [Str.length]
 have:∃ c,atI s.cps.toList j = some c:=by
   unfold atI ixN
   rw [if_pos h0,if_pos (by omega),Option.bind_some]
   exact ⟨s.cps.toList[j.toNat]'(by omega),by simp⟩
 obtain ⟨c,hc⟩:=this
 exact ⟨⟨#[c]⟩,by rw [hx,if_pos hl,hc]; rfl,rfl⟩
theorem zay_ (i:Int) {j:Int} (h:0 < j) (h2:j < 1073741824):fdvD (.int i) (.int j) = some (.int (i / j)):=by
 show (if _ then _ else _) = _
 rw [if_pos (by simp [h,h2])]
theorem z5_ (i:Int) {j:Int} (h:0 < j):modD (.int i) (.int j) = some (.int (i % j)):=by
 show (if _ then _ else _) = _
 rw [if_pos h]
theorem uau_ (sc:List Int) (t:Str) (ht:t.length ≤ 380) (b:Sl) (k:Int) (t4 t5 t6 t7 t8 t9 t10 t11 t12:Sl) :
   ∃ (t':Str) (u4 u5 u6 u7:Sl),t'.length ≤ t.length + 1 ∧ bMut [.sh (.lst (I sc)),b,.sh (.str t),.sh (.int k),t4,t5,t6,t7,t8,t9,t10,t11,t12] = some ([.sh (.lst (I sc)),b,.sh (.str t'),.sh (.int k),u4,u5,u6,u7,t8,t9,t10,t11,t12],.nx):=by
 have hz:=kc_
 obtain ⟨v,hv,v0,v1⟩:=we_ sc (91 + k)
 have hl:=yao_ (w:=t) (by rw [qe_]; omega)
 have f8:=zay_ v (j:=8) (by omega) (by omega)
 have m8:=z5_ (v / 8) (j:=(t.length:Int) + 1) (by omega)
 have f4:=zay_ v (j:=4096) (by omega) (by omega)
 have m11:=z5_ (v / 4096) (j:=11) (by omega)
 have m3:=z5_ v (j:=3) (by omega)
 have al:alph.length = 11:=by decide +kernel
 have aq:PySem.Str.ofString "0123 :\nspt7" = alph:=rfl
 have a0:0 ≤ v / 8 % ((t.length:Int) + 1):=Int.emod_nonneg _ (by omega)
 have a1:v / 8 % ((t.length:Int) + 1) < (t.length:Int) + 1:=Int.emod_lt_of_pos _ (by omega)
 have b0:0 ≤ v / 4096 % 11:=Int.emod_nonneg _ (by omega)
 have b1:v / 4096 % 11 < 11:=Int.emod_lt_of_pos _ (by omega)
 have c0:0 ≤ v % 3:=Int.emod_nonneg _ (by omega)
 have c1:v % 3 < 3:=Int.emod_lt_of_pos _ (by omega)
 generalize v / 8 % ((t.length:Int) + 1) = i at m8 a0 a1
 generalize v / 4096 % 11 = j at m11 b0 b1
 generalize v % 3 = w at m3 c0 c1
 obtain ⟨o,ix,li⟩:=kbg_ (s:=alph) (by rw [al,qe_]; omega) b0 (by rw [al]; omega)
 have s1:=xp_ (x:=t) (by omega) none (some i)
 have s2:=xp_ (x:=t) (by omega) (some i) none
 have s3:=xp_ (x:=t) (by omega) (some (i + 1)) none
 have l1:=(PyProof.Rows.fact_slice_ns t i).1 a0 (by omega)
 have l2:=(PyProof.Rows.fact_slice_sn t i).1 a0 (by omega)
 have l3:(PySem.Txt.slice t (some (i + 1)) none).length + i.toNat ≤ t.length:=by
   rcases Int.lt_or_le i t.length with q | q
   · have:=(PyProof.Rows.fact_slice_sn t (i + 1)).1 (by omega) (by omega)
     omega
   · have:=(PyProof.Rows.fact_slice_sn t (i + 1)).2 (by omega)
     omega
 generalize PySem.Txt.slice t none (some i) = x at s1 l1
 generalize PySem.Txt.slice t (some i) none = y at s2 l2
 generalize PySem.Txt.slice t (some (i + 1)) none = z at s3 l3
 have p1:=addS (x:=x) (y:=o) (by omega)
 have p2:=addS (x:=x ++ o) (y:=y) (by rw [qc_]; omega)
 have p3:=addS (x:=x ++ o) (y:=z) (by rw [qc_]; omega)
 have p4:=addS (x:=x) (y:=z) (by omega)
 obtain ⟨d,ed,t',rfl,lt⟩:=atI3 (a:=D.str (x ++ o ++ y)) (b:=D.str (x ++ o ++ z)) (c:=D.str (x ++ z)) (fun d => ∃ t':Str,d = D.str t' ∧ t'.length ≤ t.length + 1) w c0 c1 ⟨_,rfl,by rw [qc_,qc_]; omega⟩ ⟨_,rfl,by rw [qc_,qc_]; omega⟩ ⟨_,rfl,by rw [qc_]; omega⟩
 have ed:ixD (.lst [D.str (x ++ o ++ y),D.str (x ++ o ++ z),D.str (x ++ z)]) (.int w) = some (.str t'):=ed
 have h3:[D.str (x ++ o ++ y),D.str (x ++ o ++ z),D.str (x ++ z)].length ≤ sizeLine:=by simp; omega
 refine ⟨t',.sh (.int v),.sh (.int i),.sh (.str o),.sh (.lst [D.str (x ++ o ++ y),D.str (x ++ o ++ z),D.str (x ++ z)]),lt,?_⟩
 unfold bMut
 rw [aq]
 simp! only [hv,hl,f8,m8,f4,m11,ix,wd_,jh_,s1,s2,s3,p1,p2,p3,p4,m3,ed,h3]
theorem yac_ (sc:List Int) (b t8 t9 t10 t11 t12:Sl):∀ (ks:List Int) (t:Str) (t3 t4 t5 t6 t7:Sl),t.length + ks.length ≤ 380 →
   ∃ (t':Str) (u3 u4 u5 u6 u7:Sl),t'.length ≤ t.length + ks.length ∧ forL (.nm 3) bMut (I ks) [.sh (.lst (I sc)),b,.sh (.str t),t3,t4,t5,t6,t7,t8,t9,t10,t11,t12] = some ([.sh (.lst (I sc)),b,.sh (.str t'),u3,u4,u5,u6,u7,t8,t9,t10,t11,t12],.nx)
 | [],t,t3,t4,t5,t6,t7,_ => ⟨t,t3,t4,t5,t6,t7,by simp,by simp [forL]⟩
 | k :: ks,t,t3,t4,t5,t6,t7,ht => by
   rw [List.length_cons] at ht
   obtain ⟨t1,u4,u5,u6,u7,h1,e1⟩:=uau_ sc t (by omega) b k t4 t5 t6 t7 t8 t9 t10 t11 t12
   obtain ⟨t2,w3,w4,w5,w6,w7,h2,e2⟩:=yac_ sc b t8 t9 t10 t11 t12 ks t1 (.sh (.int k)) u4 u5 u6 u7 (by omega)
   have e1':bMut ([.sh (.lst (I sc)),b,.sh (.str t),t3,t4,t5,t6,t7,t8,t9,t10,t11,t12].set 3 (.sh (.int k))) = _:=e1
   refine ⟨t2,w3,w4,w5,w6,w7,by rw [List.length_cons]; omega,?_⟩
   show forL _ _ (D.int k :: I ks) _ = _
   rw [yd_ e1']
   exact e2
theorem vbn_ {i j:Int}:∃ ks:List Int,rng i j = I ks ∧ ks.length = (j - i).toNat:=⟨(List.range (j - i).toNat).map fun k => i + (k:Nat),by unfold rng I; rw [List.map_map]; rfl,by simp⟩
theorem vbg_ (sc:List Int) (b:Sl) (t:Str) (ht:t.length ≤ 300) (t8 t9 t10 t11 t12:Sl):∃ (t':Str) (u3 u4 u5 u6 u7:Sl),t'.length ≤ 380 ∧ lw4 [.sh (.lst (I sc)),b,.sh (.str t),.un,.un,.un,.un,.un,t8,t9,t10,t11,t12] = some ([.sh (.lst (I sc)),b,.sh (.str t'),u3,u4,u5,u6,u7,t8,t9,t10,t11,t12],.nx):=by
 obtain ⟨v,hv,v0,v1⟩:=we_ sc 90
 have m2:=z5_ v (j:=2) (by omega)
 have c0:0 ≤ v % 2:=Int.emod_nonneg _ (by omega)
 have c1:v % 2 < 2:=Int.emod_lt_of_pos _ (by omega)
 generalize v % 2 = w at m2 c0 c1
 have hr:=x2_ (j:=1 + w) (by omega) (by omega)
 obtain ⟨ks,ek,hk⟩:=vbn_ (i:=0) (j:=1 + w)
 rw [ek] at hr
 obtain ⟨t',u3,u4,u5,u6,u7,hl,e⟩:=yac_ sc b t8 t9 t10 t11 t12 ks t .un .un .un .un .un (by omega)
 refine ⟨t',u3,u4,u5,u6,u7,by omega,?_⟩
 unfold bMut at e
 unfold lw4
 simp! only [hv,m2,hr,e]
theorem ubg_ (sc:List Int) (b:Sl) (t:Str) (ht:t.length ≤ 380) (t3 t4 t5 t6 t7 t9 t10 t11 t12:Sl):∃ (t':Str) (u8:Sl),t'.length ≤ 400 ∧ lw5 [.sh (.lst (I sc)),b,.sh (.str t),t3,t4,t5,t6,t7,.un,t9,t10,t11,t12] = some ([.sh (.lst (I sc)),b,.sh (.str t'),t3,t4,t5,t6,t7,u8,t9,t10,t11,t12],.nx):=by
 have hz:=kc_
 obtain ⟨v,hv,v0,v1⟩:=we_ sc 93
 have m6:=z5_ v (j:=6) (by omega)
 generalize v % 6 = w at m6
 have e6:eqF (.int w) (.int 0) = some (.bl (decide (w = 0))):=rfl
 have cn:cntS (.str t) (.str nl) = some (.int (PySem.Txt.count t nl)):=by
   unfold cntS
   simp only [kd_,Option.bind_some]
   rw [if_pos (show 0 < nl.length by decide)]
 have g1:gtF (.int (PySem.Txt.count t nl)) (.int 1) = some (.bl (decide (1 < PySem.Txt.count t nl))):=rfl
 unfold lw5
 rw [q_nl]
 cases q1:decide (w = 0) with
 | false =>
   rw [q1] at e6
   refine ⟨t,.un,by omega,?_⟩
   simp! only [hv,m6,e6]
 | true =>
   rw [q1] at e6
   cases q2:decide (1 < PySem.Txt.count t nl) with
   | false =>
     rw [q2] at g1
     refine ⟨t,.un,by omega,?_⟩
     simp! only [hv,m6,e6,wc_,kd_,cn,g1]
   | true =>
     rw [q2] at g1
     have hs:=yl_ (x:=t) (y:=nl) (by decide) (by rw [qe_]; omega)
     obtain ⟨r0,rs,e⟩:=je_ t nl
     have hpl:=wt (x:=t) (y:=nl) (by decide)
     rw [e] at hs hpl
     simp only [List.map_cons,List.sum_cons,List.length_cons] at hpl
     have hx:ixD (.lst ((r0 :: rs).map D.str)) (.int 0) = some (.str r0):=um_ _ _
     have hsl:slD (.lst ((r0 :: rs).map D.str)) (some 1) none = some (.lst (rs.map D.str)):=by
       show some (D.lst (cut ((r0 :: rs).map D.str) (some 1) none)) = _
       rw [show (1:Int) = ((1:Nat):Int) from rfl,zr_ _ _ (by simp)]
       rfl
     rw [List.map_cons] at hs hx hsl
     have hrv:revD (.lst (rs.map D.str)) = some (.lst (rs.reverse.map D.str)):=by
       show some (D.lst (rs.map D.str).reverse) = _
       rw [List.map_reverse]
     have had:addD (.lst [D.str r0]) (.lst (rs.reverse.map D.str)) = some (.lst ((r0 :: rs.reverse).map D.str)):=by
       show (if _ then _ else _) = _
       rw [if_pos (by simp; omega)]
       rfl
     have hsum:(rs.reverse.map (·.length)).sum = (rs.map (·.length)).sum:=by rw [List.map_reverse,List.sum_reverse]
     have ej:=kn_ (x:=nl) (ys:=r0 :: rs.reverse) rfl (by
       rw [show nl.length = 1 from rfl,qe_]
       simp only [List.map_cons,List.sum_cons,List.length_cons,hsum,List.length_reverse]
       omega)
     rw [List.map_cons] at ej had
     have jl:=vn_ 10 (r0 :: rs.reverse) (by simp)
     simp only [List.map_cons,List.sum_cons,List.length_cons,hsum,List.length_reverse] at jl
     refine ⟨Str.join nl (r0 :: rs.reverse),.sh (.lst (D.str r0 :: rs.map D.str)),by unfold nl; omega,?_⟩
     simp! only [hv,m6,e6,wc_,kd_,cn,g1,hs,hx,jh_,hsl,hrv,had,ej]
theorem ua6_:ke_ [.exc "BadWeb"] = some (.ok (.str (PySem.Str.ofString "web"))):=by rfl
theorem qau_:ke_ [.exc "BadText"] = some (.ok (.str (PySem.Str.ofString "text"))):=by rfl
theorem qa6_:noN .non = some (.bl false):=rfl
theorem law_true (sc:List Int):va5_ [.lst (I sc)] = some (.ok (.bl true)):=by
 have hz:=kc_
 obtain ⟨ni,ls,hweb,g,_⟩:=w4_ sc 0 7 (by omega) (by omega)
 obtain ⟨n,rfl⟩:∃ n:Nat,ni = n:=⟨ni.toNat,by have:=g.n0; omega⟩
 have w:=kbn_ g
 have n7:n ≤ 7:=by have:=g.n7; omega
 have n10:=w.n10
 have hp:∀ p ∈ ls,In10 p.2:=fun p hp => ⟨by have:=w.ln p hp; omega,by have:=w.ln p hp; omega⟩
 have ll:ls.length ≤ 1000:=by have:=g.len; omega
 have et:=un_ n10 hp ll
 have ew:=jk_ n10 hp ll
 rw [if_pos (xl_.mpr w)] at ew
 have tl:=va6_ w n7
 have er:=u4_ (t:=txt n ls) (by omega)
 rw [qz_.mpr ⟨w,rfl⟩] at er
 have nw:=jat_ (d:=web n ls) (zan_ n ls) (by omega)
 have nt:=neS (txt n ls) (txt n ls)
 rw [decide_eq_true rfl] at nt
 have e11:=jk_ (n:=11) (ls:=[])
 obtain ⟨t1,u3,u4,u5,u6,u7,lt1,e4⟩:=vbg_ sc (.sh (web n ls)) (txt n ls) tl .un .un .un .un .un
 obtain ⟨t2,u8,lt2,e5⟩:=ubg_ sc (.sh (web n ls)) t1 lt1 u3 u4 u5 u6 u7 .un .un .un .un
 have er2:=u4_ lt2
 have ed2:=yu_ lt2
 rw [kaf_] at er2
 have st:(clss.contains "BadText" && sup "BadText" "MarkError") = true:=rfl
 have w11:vg_ [.tup [.int 11,.lst []]] = some (.er "BadWeb"):=by rfl
 have nx:=neS (PySem.Str.ofString "text") (PySem.Str.ofString "text")
 rw [decide_eq_true rfl] at nx
 have ex:=eqS (PySem.Str.ofString "web") (PySem.Str.ofString "web")
 rw [decide_eq_true rfl] at ex
 unfold va5_
 rw [vi_]
 have s1:lw1 [.sh (.lst (I sc)),.un,.un,.un,.un,.un,.un,.un,.un,.un,.un,.un,.un] = some ([.sh (.lst (I sc)),.sh (web n ls),.un,.un,.un,.un,.un,.un,.un,.un,.un,.un,.un],.nx):=by
   unfold lw1
   simp! only [hweb]
 have s2:lw2 [.sh (.lst (I sc)),.sh (web n ls),.un,.un,.un,.un,.un,.un,.un,.un,.un,.un,.un] = some ([.sh (.lst (I sc)),.sh (web n ls),.sh (.str (txt n ls)),.un,.un,.un,.un,.un,.un,.un,.un,.un,.un],.nx):=by
   unfold lw2
   simp! only [et]
 have s3:lw3 [.sh (.lst (I sc)),.sh (web n ls),.sh (.str (txt n ls)),.un,.un,.un,.un,.un,.un,.un,.un,.un,.un] = some ([.sh (.lst (I sc)),.sh (web n ls),.sh (.str (txt n ls)),.un,.un,.un,.un,.un,.un,.un,.un,.un,.un],.nx):=by
   unfold lw3
   simp! only [ew,nt,er,nw]
 have s6:lw6 [.sh (.lst (I sc)),.sh (web n ls),.sh (.str t2),u3,u4,u5,u6,u7,u8,.un,.un,.un,.un] = some ([.sh (.lst (I sc)),.sh (web n ls),.sh (.str t2),u3,u4,u5,u6,u7,u8,.sh .non,.un,.un,.un],.nx):=by
   unfold lw6
   simp! only []
 have s7:lw7 [.sh (.lst (I sc)),.sh (web n ls),.sh (.str t2),u3,u4,u5,u6,u7,u8,.sh .non,.un,.un,.un] = some ([.sh (.lst (I sc)),.sh (web n ls),.sh (.str t2),u3,u4,u5,u6,u7,u8,.sh .non,.sh .non,.un,.un],.nx):=by
   unfold lw7
   simp! only []
 show outc ((sq lw1 _) [.sh (.lst (I sc)),.un,.un,.un,.un,.un,.un,.un,.un,.un,.un,.un,.un]) = _
 rw [xy_ s1,xy_ s2,xy_ s3,xy_ e4,xy_ e5,xy_ s6,xy_ s7]
 cases q:zq_ t2 with
 | some p =>
   rw [q] at er2 ed2
   obtain ⟨m,ks⟩:=p
   have eq2:=wat_ (d:=web m ks) (zan_ m ks) (by omega)
   have nn:noN (web m ks) = some (.bl true):=rfl
   dsimp only at er2 ed2
   unfold lw8 lw9 lw10
   simp! only [er2,ed2,nn,eq2]
 | none =>
   rw [q] at er2 ed2
   dsimp only at er2 ed2
   unfold lw8 lw9 lw10 lw11 lw12 lw13 lw14
   simp! only [er2,ed2,qa6_,st,qau_,nx,w11,za6_,ua6_,ex]
end FW
set_option maxHeartbeats 8000000
namespace FW
open PySem PySem.Spec PyProof.Rows L2
noncomputable def top (i:Nat):Stmt:=PySem.Challenge.pw_forcemark_k30_texts.main.body.getD i (.Pass ⟨0,0,0,0⟩)
noncomputable abbrev wao_:Stmt:=top 9
noncomputable abbrev xac_:Stmt:=top 10
noncomputable abbrev y5_:Stmt:=top 11
noncomputable abbrev ww_:Stmt:=top 12
noncomputable abbrev wac_:Stmt:=top 15
noncomputable abbrev x5_:Stmt:=top 16
noncomputable abbrev ql_:Stmt:=top 17
noncomputable abbrev jw_:Stmt:=top 18
noncomputable abbrev qf_:Stmt:=top 19
noncomputable abbrev yay_:Stmt:=top 20
noncomputable abbrev kw_:Stmt:=top 22
noncomputable abbrev w5_:Stmt:=top 23
noncomputable abbrev j5_:Stmt:=top 24
noncomputable abbrev qn_:Stmt:=top 25
noncomputable abbrev vw_:Stmt:=top 26
noncomputable abbrev zo_:Stmt:=top 27
noncomputable abbrev yt_:Stmt:=top 28
noncomputable abbrev xt_:Stmt:=top 29
structure Txt (K:PySem.W.Frag) (mg:Str→Option Value) (ad:String→Addr):Prop where
 n_ValueError:mg "ValueError" = none
 n_all:mg "all" = none
 n_int:mg "int" = none
 n_isinstance:mg "isinstance" = none
 n_len:mg "len" = none
 n_range:mg "range" = none
 n_str:mg "str" = none
 g_MOST_SPOTS:∃ t,mg "MOST_SPOTS" = some (.int 10 t)
 g_HEAD:∃ t,mg "HEAD" = some (.str (PySem.Str.ofString "spots ") t)
 c_MarkError:ExcCls K mg "MarkError" (ad "MarkError")
 c_BadWeb:ExcCls K mg "BadWeb" (ad "BadWeb")
 c_BadSet:ExcCls K mg "BadSet" (ad "BadSet")
 c_BadSteps:ExcCls K mg "BadSteps" (ad "BadSteps")
 c_BadTree:ExcCls K mg "BadTree" (ad "BadTree")
 c_BadText:ExcCls K mg "BadText" (ad "BadText")
 isi:ErrCls K ad clss
 k_BadSet:∀ n,clss.contains n = true→PySem.W.kitOne K (.ref (ad n)) (.ref (ad "BadSet")) = some (sup n "BadSet")
 k_BadSteps:∀ n,clss.contains n = true→PySem.W.kitOne K (.ref (ad n)) (.ref (ad "BadSteps")) = some (sup n "BadSteps")
 k_BadText:∀ n,clss.contains n = true→PySem.W.kitOne K (.ref (ad n)) (.ref (ad "BadText")) = some (sup n "BadText")
 k_BadTree:∀ n,clss.contains n = true→PySem.W.kitOne K (.ref (ad n)) (.ref (ad "BadTree")) = some (sup n "BadTree")
 k_BadWeb:∀ n,clss.contains n = true→PySem.W.kitOne K (.ref (ad n)) (.ref (ad "BadWeb")) = some (sup n "BadWeb")
 k_ValueError:∀ n,clss.contains n = true→PySem.W.kitOne K (.ref (ad n)) (.type "ValueError") = some (sup n "ValueError")
 x_BadWeb:∀ n,(clss.contains n && sup n "BadWeb") = true→PySem.W.exmOne K (.ref (ad n)) (.ref (ad "BadWeb")) = some true
 x_MarkError:∀ n,(clss.contains n && sup n "MarkError") = true→PySem.W.exmOne K (.ref (ad n)) (.ref (ad "MarkError")) = some true
 d_rises:DefOk K mg "rises" wao_ ["things"]
 d_is_set:DefOk K mg "is_set" xac_ ["count","some"]
 d_is_line:DefOk K mg "is_line" y5_ ["count","line"]
 d_look_web:DefOk K mg "look_web" ww_ ["web"]
 d_row_of:DefOk K mg "row_of" wac_ ["spot","others"]
 d_written:DefOk K mg "written" x5_ ["web"]
 d_number_below:DefOk K mg "number_below" ql_ ["bound","word"]
 d_lines_in:DefOk K mg "lines_in" jw_ ["row","count"]
 d_written_or_refused:DefOk K mg "written_or_refused" qf_ ["web"]
 d_read:DefOk K mg "read" yay_ ["text"]
 d_law_cell:DefOk K mg "_law_cell" kw_ ["_law_script","_law_k"]
 d_law_mix:DefOk K mg "_law_mix" w5_ ["_law_script","_law_k"]
 d_law_web:DefOk K mg "_law_web" j5_ ["_law_script","_law_k","_law_most"]
 d_law_refusal:DefOk K mg "_law_refusal" qn_ ["_law_kept"]
 d_law_text:DefOk K mg "_law_text" vw_ ["_law_web_here"]
 d_law_numbers:DefOk K mg "_law_numbers" zo_ ["_law_words"]
 d_law_tried:DefOk K mg "_law_tried" yt_ ["_law_text_here"]
 d_law:DefOk K mg "law" xt_ ["_law_script"]
section
variable {P:Program} {w:World} {K:PySem.W.Frag} {mg:Str→Option Value} {base:Heap} {ad:String→Addr}
theorem vaf_:(["things","k"]:List Str).Nodup:=by decide +kernel
theorem jao_ {fl:Bool} (T:Txt K mg ad):CallOk fl P w K mg base ⟨K,w,ad⟩ "rises" 1 1 jm_:=.D (N:=["things"]) (k:=0) T.d_rises .q (by decide) fun _ _ _ _ _ _ _ _ _ hr hu hu0 nd => ka_ (d_sR (wq_ (kaa_ rfl) T.n_all zas_ (xa_ (uv_ (ns:=["k"]) (vv_ T.n_range (xa_ (d_op vbd_ (wq_ u2_ T.n_len w3_ (xa_ (za_ 0) (va_))) (ua_)) (va_))) (fun _ _ _ _ => (d_nm 1 vaf_)) (fun _ _ _ _ => kae_) (fun _ _ _ _ => jy_ (xa4_ hu0) (d_ix vf_ (za_ 0) (za_ 1) (fun _ _ => rfl)) (d_ix vf_ (za_ 0) (d_op zc_ (za_ 1) (ua_)) (fun _ _ => rfl)) (xc_ _))) (va_))))
theorem v8_:(["count","some","spot"]:List Str).Nodup:=by decide +kernel
theorem zav_ {fl:Bool} (T:Txt K mg ad):CallOk fl P w K mg base ⟨K,w,ad⟩ "is_set" 2 2 uq_:=.D (N:=["count","some"]) (k:=1) T.d_is_set .q (by decide) fun _ _ _ _ _ _ _ _ _ hr hu hu0 nd => ka_ (d_sR (v2_ (xd_ (hr.mono (by decide)) qa_ (jao_ T) (xa_ (za_ 1) (va_))) (xae_ (wq_ (kaa_ rfl) T.n_all zas_ (xa_ (uv_ (ns:=["spot"]) (zu_ (za_ 1)) (fun _ _ _ _ => (d_nm 2 v8_)) (fun _ _ _ _ => kae_) (fun _ _ _ _ => wbl_ (wa4_ hu0) (xa4_ hu0) (ua_) (za_ 2) (za_ 0))) (va_))))))
theorem kao_ {fl:Bool} (T:Txt K mg ad):CallOk fl P w K mg base ⟨K,w,ad⟩ "is_line" 3 2 xk_:=.D (N:=["count","line"]) (k:=2) T.d_is_line .q (by decide) fun _ _ _ _ _ _ _ _ _ hr hu hu0 nd => ka_ (d_sR (v2_ (jy_ (vo_ hu) (wq_ u2_ T.n_len w3_ (xa_ (za_ 1) (va_))) (ua_) (xc_ _)) (xae_ (xd_ (hr.mono (by decide)) qa_ (zav_ T) (xa_ (za_ 0) (xa_ (za_ 1) (va_)))))))
theorem y0_:(["web","count","lines","line"]:List Str).Nodup:=by decide +kernel
theorem uw_ {fl:Bool} (T:Txt K mg ad):CallOk fl P w K mg base ⟨K,w,ad⟩ "look_web" 4 1 wf_:=.D (N:=["web","count","lines"]) (k:=3) T.d_look_web .q (by decide) fun _ _ _ _ _ _ _ _ _ hr hu hu0 nd => wa_ (d_sI (ye_ (qt_ hu) (wq_ u2_ T.n_len w3_ (xa_ (za_ 0) (va_))) (ua_) (xc_ _)) (ka_ (d_sT ze_ (fun _ => rfl) T.c_BadWeb rfl)) (jd_)) (wa_ (d_sA 1 nd (d_ix vf_ (za_ 0) (ua_) (fun _ _ => rfl))) (wa_ (d_sA 2 nd (d_ix vf_ (za_ 0) (ua_) (fun _ _ => rfl))) (wa_ (d_sI (xs_ (wbd_ (wa4_ hu0) (wa4_ hu0) (ua_) (za_ 1) (val_ T.g_MOST_SPOTS))) (ka_ (d_sT ze_ (fun _ => rfl) T.c_BadWeb rfl)) (jd_)) (wa_ (d_sI (xs_ (ky_ (wq_ (kaa_ rfl) T.n_all zas_ (xa_ (uv_ (ns:=["line"]) (zu_ (za_ 2)) (fun _ _ _ _ => (d_nm 3 y0_)) (fun _ _ _ _ => kae_) (fun _ _ _ _ => xd_ (hr.mono (by decide)) (qar_ (fl:=false)) (kao_ T) (xa_ (za_ 1) (xa_ (za_ 3) (va_))))) (va_))) (fun _ => rfl))) (ka_ (d_sT ze_ (fun _ => rfl) T.c_BadWeb rfl)) (jd_)) (ka_ (d_sI (xs_ (ky_ (xd_ (hr.mono (by decide)) qa_ (jao_ T) (xa_ (za_ 2) (va_))) (fun _ => rfl))) (ka_ (d_sT ze_ (fun _ => rfl) T.c_BadWeb rfl)) (jd_)))))))
theorem u8_:(["spot","others","other"]:List Str).Nodup:=by decide +kernel
theorem yav_ {fl:Bool} (T:Txt K mg ad):CallOk fl P w K mg base ⟨K,w,ad⟩ "row_of" 1 2 yn_:=.D (N:=["spot","others"]) (k:=0) T.d_row_of .q (by decide) fun _ _ _ _ _ _ _ _ _ hr hu hu0 nd => ka_ (d_sR (d_op zc_ (xa5_ qal_ (jas_ (za_ 0)) (ud_)) (wm_ PySem.F.slot_str_join PySem.F.type_str_join vs_ (ud_) (uv_ (ns:=["other"]) (zu_ (za_ 1)) (fun _ _ _ _ => (d_nm 2 u8_)) (fun _ _ _ _ => kae_) (fun _ _ _ _ => xa5_ ya5_ (ud_) (jas_ (za_ 2)))))))
theorem k5_:(["web","count","rows","spot","greater","line"]:List Str).Nodup:=by decide +kernel
theorem wt_ {fl:Bool} (T:Txt K mg ad):CallOk fl P w K mg base ⟨K,w,ad⟩ "written" 5 1 vg_:=.D (N:=["web","count","rows","spot","greater"]) (k:=4) T.d_written .q (by decide) fun _ _ _ _ _ _ _ _ _ hr hu hu0 nd => wa_ (d_sE (xd_ (hr.mono (by decide)) qa_ (uw_ T) (xa_ (za_ 0) (va_)))) (wa_ (d_sA 1 nd (d_ix vf_ (za_ 0) (ua_) (fun _ _ => rfl))) (wa_ (d_sO 2 nd (xa_ (xa5_ qal_ (jas_ (z8_ T.g_HEAD)) (jas_ (za_ 1))) (va_))) (wa_ (d_sF ui_ (vv_ T.n_range (xa_ (za_ 1) (va_))) (d_nm 3 nd) (wa_ (wal_ 4 nd (ns:=["line"]) (zu_ (d_ix vf_ (za_ 0) (ua_) (fun _ _ => rfl))) (fun _ _ _ _ => (d_nm 5 k5_)) (fun _ _ _ _ => xbf_ (ye_ (vo_ hu) (d_ix vf_ (za_ 5) (ua_) (fun _ _ => rfl)) (za_ 3) (xc_ _))) (fun _ _ _ _ => d_ix vf_ (za_ 5) (ua_) (fun _ _ => rfl))) (ka_ (d_sI (ky_ (za_ 4) (fun _ => rfl)) (ka_ (d_sP 2 (xd_ (hr.mono (by decide)) qa_ (yav_ T) (xa_ (za_ 3) (xa_ (za_ 4) (va_)))))) (jd_))))) (ka_ (d_sR (wm_ PySem.F.slot_str_join PySem.F.type_str_join vs_ (ud_) (za_ 2)))))))
theorem kh_ {fl:Bool} (T:Txt K mg ad):CallOk fl P w K mg base ⟨K,w,ad⟩ "number_below" 1 2 qb_:=.D (N:=["bound","word","number"]) (k:=0) T.d_number_below .q (by decide) fun _ _ _ _ _ _ _ _ _ hr hu hu0 nd => wa_ (d_sF ui_ (vv_ T.n_range (xa_ (za_ 0) (va_))) (d_nm 2 nd) (ka_ (d_sI (ye_ (vo_ hu) (d_ty k3_ T.n_str yam_ (xa_ (za_ 2) (va_))) (za_ 1) (xc_ _)) (ka_ (d_sR (za_ 2))) (jd_)))) (ka_ (d_sT ze_ (fun _ => rfl) T.c_BadText rfl))
theorem x0_:(["row","count","words","spot","word"]:List Str).Nodup:=by decide +kernel
theorem uaf_ (T:Txt K mg ad):CallOk false P w K mg base ⟨K,w,ad⟩ "lines_in" 2 2 qh_:=.D (N:=["row","count","words","spot"]) (k:=1) T.d_lines_in .q (by decide) fun _ _ _ _ _ _ _ _ _ hr hu hu0 nd => wa_ (d_sA 2 nd (wm_ PySem.F.slot_str_split PySem.F.type_str_split qi_ (za_ 0) (ud_))) (wa_ (d_sI (xs_ (ky_ (wm_ PySem.F.slot_str_endswith PySem.F.type_str_endswith vbm_ (d_ix vf_ (za_ 2) (ua_) (fun _ _ => rfl)) (ud_)) (fun _ => rfl))) (ka_ (d_sT ze_ (fun _ => rfl) T.c_BadText rfl)) (jd_)) (wa_ (d_sA 3 nd (xd_ (hr.mono (by decide)) qa_ (kh_ T) (xa_ (za_ 1) (xa_ (ul_ (d_ix vf_ (za_ 2) (ua_) (fun _ _ => rfl)) vc_ (kg_ (zbm_ (ua_)))) (va_))))) (ka_ (d_sR (ja5_ y7_ (ns:=["word"]) (zu_ (kak_ uak_ (za_ 2) (kg_ (ua_)) vc_)) (fun _ _ _ _ => (d_nm 4 x0_)) (fun _ _ _ _ => v7_ (xa_ (za_ 3) (xa_ (xd_ (hr.mono (by decide)) (v1_ (fl:=false)) (kh_ T) (xa_ (za_ 1) (xa_ (za_ 4) (va_)))) (va_)))))))))
theorem jl_ (T:Txt K mg ad):CallOk false P w K mg base ⟨K,w,ad⟩ "written_or_refused" 6 1 vb_:=.D (N:=["web"]) (k:=5) T.d_written_or_refused .q (by decide) fun _ _ _ _ _ _ _ _ _ hr hu hu0 nd => ka_ (qbf_ T.c_BadWeb.bound T.c_BadText rfl T.x_BadWeb xv_ (fun _ => PassesOwnAt.leaving) (fun _ _ ok => ka_ (d_sR (xd_ (hr.mono (by decide)) (kk_ ok) (wt_ T) (xa_ (za_ 0) (va_))))))
theorem xay_ (T:Txt K mg ad):CallOk false P w K mg base ⟨K,w,ad⟩ "read" 7 1 q3_:=.D (N:=["text","rows","count","lines","row","web"]) (k:=6) T.d_read .q (by decide) fun _ _ _ _ _ _ _ _ _ hr hu hu0 nd => wa_ (d_sA 1 nd (wm_ PySem.F.slot_str_split PySem.F.type_str_split qi_ (za_ 0) (ud_))) (wa_ (d_sI (xs_ (ky_ (wm_ PySem.F.slot_str_startswith PySem.F.type_str_startswith kbm_ (d_ix vf_ (za_ 1) (ua_) (fun _ _ => rfl)) (z8_ T.g_HEAD)) (fun _ => rfl))) (ka_ (d_sT ze_ (fun _ => rfl) T.c_BadText rfl)) (jd_)) (wa_ (d_sA 2 nd (xd_ (hr.mono (by decide)) qa_ (kh_ T) (xa_ (d_op zc_ (val_ T.g_MOST_SPOTS) (ua_)) (xa_ (ul_ (d_ix vf_ (za_ 1) (ua_) (fun _ _ => rfl)) (kg_ (wq_ ual_ T.n_len w3_ (xa_ (z8_ T.g_HEAD) (va_)))) vc_) (va_))))) (wa_ (d_sO 3 nd (va_)) (wa_ (d_sF ui_ (zu_ (kak_ uak_ (za_ 1) (kg_ (ua_)) vc_)) (d_nm 4 nd) (ka_ (zbn_ 3 (xd_ (hr.mono (by decide)) qa_ (uaf_ T) (xa_ (za_ 4) (xa_ (za_ 2) (va_))))))) (wa_ (d_sA 5 nd (v7_ (xa_ (za_ 2) (xa_ (za_ 3) (va_))))) (wa_ (d_sI (ye_ (qt_ hu) (xd_ (hr.mono (by decide)) qa_ (jl_ T) (xa_ (za_ 5) (va_))) (za_ 0) (xc_ _)) (ka_ (d_sT ze_ (fun _ => rfl) T.c_BadText rfl)) (jd_)) (ka_ (d_sR (za_ 5)))))))))
theorem qaf_ {fl:Bool} (T:Txt K mg ad):CallOk fl P w K mg base ⟨K,w,ad⟩ "_law_cell" 1 2 qk_:=.D (N:=["_law_script","_law_k"]) (k:=0) T.d_law_cell .q (by decide) fun _ _ _ _ _ _ _ _ _ hr hu hu0 nd => wa_ (d_sI (ky_ (za_ 0) (fun _ => rfl)) (ka_ (d_sR (d_ix vf_ (za_ 0) (d_op uh_ (za_ 1) (wq_ u2_ T.n_len w3_ (xa_ (za_ 0) (va_)))) (fun _ _ => rfl)))) (jd_)) (ka_ (d_sR (ua_)))
theorem xi_ {fl:Bool} (T:Txt K mg ad):CallOk fl P w K mg base ⟨K,w,ad⟩ "_law_mix" 2 2 uc_:=.D (N:=["_law_script","_law_k","_law_number"]) (k:=1) T.d_law_mix .q (by decide) fun _ _ _ _ _ _ _ _ _ hr hu hu0 nd => wa_ (d_sA 2 nd (d_op uh_ (d_op zc_ (xd_ (hr.mono (by decide)) qa_ (qaf_ T) (xa_ (za_ 0) (xa_ (za_ 1) (va_)))) (d_op waa_ (ua_) (d_op zc_ (za_ 1) (ua_)))) (ua_))) (wa_ (d_sA 2 nd (d_op uh_ (d_op waa_ (za_ 2) (ua_)) (ua_))) (ka_ (d_sR (d_op uh_ (d_op zc_ (d_op waa_ (d_op xaa_ (za_ 2) (ua_)) (ua_)) (za_ 2)) (ua_)))))
theorem vao_ {fl:Bool} (T:Txt K mg ad):CallOk fl P w K mg base ⟨K,w,ad⟩ "_law_web" 3 3 xn_:=.D (N:=["_law_script","_law_k","_law_most","_law_many","_law_way","_law_lines","_law_one","_law_other","_law_number","_law_road"]) (k:=2) T.d_law_web .q (by decide) fun _ _ _ _ _ _ _ _ _ hr hu hu0 nd => wa_ (d_sA 3 nd (d_op uh_ (xd_ (hr.mono (by decide)) qa_ (xi_ T) (xa_ (za_ 0) (xa_ (za_ 1) (va_)))) (d_op zc_ (za_ 2) (ua_)))) (wa_ (d_sA 4 nd (d_op uh_ (xd_ (hr.mono (by decide)) qa_ (xi_ T) (xa_ (za_ 0) (xa_ (d_op zc_ (za_ 1) (ua_)) (va_)))) (ua_))) (wa_ (d_sO 5 nd (va_)) (wa_ (d_sF ui_ (vv_ T.n_range (xa_ (za_ 3) (va_))) (d_nm 6 nd) (ka_ (d_sF ui_ (ybf_ T.n_range (xa_ (d_op zc_ (za_ 6) (ua_)) (xa_ (za_ 3) (va_)))) (d_nm 7 nd) (wa_ (d_sA 8 nd (d_op xaa_ (xd_ (hr.mono (by decide)) qa_ (xi_ T) (xa_ (za_ 0) (xa_ (d_op zc_ (d_op zc_ (d_op zc_ (za_ 1) (ua_)) (d_op waa_ (ua_) (za_ 6))) (za_ 7)) (va_)))) (ua_))) (wa_ (d_sA 9 nd (kbl_ (v2_ (jy_ (vo_ hu) (za_ 4) (ua_) (xc_ _)) (xae_ (jy_ (vo_ hu) (za_ 7) (d_op zc_ (za_ 6) (ua_)) (xc_ _)))) (xae_ (v2_ (jy_ (vo_ hu) (za_ 4) (ua_) (xc_ _)) (xae_ (jy_ (vo_ hu) (za_ 6) (d_op uh_ (za_ 8) (za_ 7)) (xc_ _))))))) (ka_ (d_sI ((PW.pt (vy_ (ky_ (za_ 9) (fun _ => rfl)) (yae_ ((PW.pt (jak_ (ye_ (ja4_ hu0) (za_ 4) (ua_) (xc_ _)) (wak_ (ye_ (xa4_ hu0) (d_op uh_ (za_ 8) (ua_)) (za_ 4) (xc_ _)))))))))) (ka_ (d_sP 5 (v7_ (xa_ (za_ 6) (xa_ (za_ 7) (va_)))))) (jd_)))))))) (ka_ (d_sR (v7_ (xa_ (za_ 3) (xa_ (za_ 5) (va_)))))))))
theorem yo_ {fl:Bool} (T:Txt K mg ad):CallOk fl P w K mg base ⟨K,w,ad⟩ "_law_refusal" 1 1 ke_:=.D (N:=["_law_kept","_law_kinds"]) (k:=0) T.d_law_refusal .q (by decide) fun _ _ _ _ _ _ _ _ _ hr hu hu0 nd => wa_ (d_sI (k2_ (za_ 0)) (ka_ (d_sR (ud_))) (jd_)) (wa_ (d_sA 1 nd (uy_ (xa_ (z3_ T.isi T.k_BadSet T.n_isinstance xe_ T.c_BadSet.bound (za_ 0)) (xa_ (z3_ T.isi T.k_BadSteps T.n_isinstance xe_ T.c_BadSteps.bound (za_ 0)) (xa_ (z3_ T.isi T.k_BadText T.n_isinstance xe_ T.c_BadText.bound (za_ 0)) (va_)))))) (wa_ (d_sA 1 nd (d_op zc_ (za_ 1) (uy_ (xa_ (z3_ T.isi T.k_BadTree T.n_isinstance xe_ T.c_BadTree.bound (za_ 0)) (xa_ (z3_ T.isi T.k_BadWeb T.n_isinstance xe_ T.c_BadWeb.bound (za_ 0)) (va_)))))) (wa_ (d_sI ((PW.pt (vy_ (ye_ (qt_ hu) (jbe_ hu (za_ 1) (d_bl)) (ua_) (xc_ _)) (yae_ (xs_ (ky_ (qbe_ T.isi T.k_ValueError T.n_isinstance xe_ T.n_ValueError j3_ (za_ 0)) (fun _ => rfl))))))) (ka_ (d_sR (ud_))) (jd_)) (ka_ (d_sR (d_ix vf_ (uy_ (xa_ (ud_) (xa_ (ud_) (xa_ (ud_) (xa_ (ud_) (xa_ (ud_) (va_))))))) (vbe_ hu (za_ 1) (d_bl)) (fun _ _ => rfl)))))))
theorem xo_:(["_law_web_here","_law_rows","_law_spot","_law_ends","_law_one","_law_other"]:List Str).Nodup:=by decide +kernel
theorem qw_ {fl:Bool} (T:Txt K mg ad):CallOk fl P w K mg base ⟨K,w,ad⟩ "_law_text" 1 1 wg_:=.D (N:=["_law_web_here","_law_rows","_law_spot","_law_ends"]) (k:=0) T.d_law_text .q (by decide) fun _ _ _ _ _ _ _ _ _ hr hu hu0 nd => wa_ (d_sO 1 nd (xa_ (d_op zc_ (ud_) (d_ty k3_ T.n_str yam_ (xa_ (d_ix vf_ (za_ 0) (ua_) (fun _ _ => rfl)) (va_)))) (va_))) (wa_ (d_sF ui_ (vv_ T.n_range (xa_ (d_ix vf_ (za_ 0) (ua_) (fun _ _ => rfl)) (va_))) (d_nm 2 nd) (wa_ (wal_ 3 nd (ns:=["_law_one","_law_other"]) (zu_ (d_ix vf_ (za_ 0) (ua_) (fun _ _ => rfl))) (fun _ _ _ _ => (d_tp rfl (d_gc 4 (d_gc 5 d_gn xo_) xo_))) (fun _ _ _ _ => xbf_ (ye_ (vo_ hu) (za_ 4) (za_ 2) (xc_ _))) (fun _ _ _ _ => d_ty k3_ T.n_str yam_ (xa_ (za_ 5) (va_)))) (ka_ (d_sI (ye_ (qt_ hu) (za_ 3) (uy_ (va_)) (xc_ _)) (ka_ (d_sP 1 (d_op zc_ (d_op zc_ (d_ty k3_ T.n_str yam_ (xa_ (za_ 2) (va_))) (ud_)) (wm_ PySem.F.slot_str_join PySem.F.type_str_join vs_ (ud_) (za_ 3))))) (jd_))))) (ka_ (d_sR (wm_ PySem.F.slot_str_join PySem.F.type_str_join vs_ (ud_) (za_ 1)))))
theorem kq_:(["_law_words","_law_found","_law_word","_law_one"]:List Str).Nodup:=by decide +kernel
theorem xj_ {fl:Bool} (T:Txt K mg ad):CallOk fl P w K mg base ⟨K,w,ad⟩ "_law_numbers" 1 1 yc_:=.D (N:=["_law_words","_law_found","_law_word"]) (k:=0) T.d_law_numbers .q (by decide) fun _ _ _ _ _ _ _ _ _ hr hu hu0 nd => wa_ (d_sO 1 nd (va_)) (wa_ (d_sF ui_ (zu_ (za_ 0)) (d_nm 2 nd) (wa_ (d_sI ((PW.pt (vy_ (ye_ (vo_ hu) (za_ 2) (ud_) (xc_ _)) (vy_ (ye_ (ja4_ hu0) (wq_ ual_ T.n_len w3_ (xa_ (za_ 2) (va_))) (ua_) (xc_ _)) (vy_ (xs_ (ky_ (wq_ (kaa_ rfl) T.n_all zas_ (xa_ (uv_ (ns:=["_law_one"]) (ubm_ (za_ 2)) (fun _ _ _ _ => (d_nm 3 kq_)) (fun _ _ _ _ => kae_) (fun _ _ _ _ => jy_ xbm_ (za_ 3) (ud_) rfl)) (va_))) (fun _ => rfl))) (yae_ (ye_ (qt_ hu) (d_ty k3_ T.n_str yam_ (xa_ (d_ty uaa_ T.n_int vas_ (xa_ (za_ 2) (va_))) (va_))) (za_ 2) (xc_ _)))))))) (ka_ (d_sR (j2_))) (jd_)) (ka_ (d_sP 1 (d_ty uaa_ T.n_int vas_ (xa_ (za_ 2) (va_))))))) (ka_ (d_sR (za_ 1))))
theorem xu_:(["_law_text_here","_law_rows","_law_many","_law_lines","_law_row","_law_parts","_law_found","_law_kept","e","_law_word"]:List Str).Nodup:=by decide +kernel
theorem q8_ {fl:Bool} (T:Txt K mg ad):CallOk fl P w K mg base ⟨K,w,ad⟩ "_law_tried" 5 1 zj_:=.D (N:=["_law_text_here","_law_rows","_law_many","_law_lines","_law_row","_law_parts","_law_found","_law_kept","e"]) (k:=4) T.d_law_tried .q (by decide) fun _ _ _ _ _ _ _ _ _ hr hu hu0 nd => wa_ (d_sA 1 nd (wm_ PySem.F.slot_str_split PySem.F.type_str_split qi_ (za_ 0) (ud_))) (wa_ (d_sA 2 nd (xd_ (hr.mono (by decide)) qa_ (xj_ T) (xa_ (uy_ (xa_ (ul_ (d_ix vf_ (za_ 1) (ua_) (fun _ _ => rfl)) (kg_ (ua_)) vc_) (va_))) (va_)))) (wa_ (d_sI ((PW.pt (vy_ (ye_ (qt_ hu) (ul_ (d_ix vf_ (za_ 1) (ua_) (fun _ _ => rfl)) vc_ (kg_ (ua_))) (ud_) (xc_ _)) (yae_ (k2_ (za_ 2)))))) (ka_ (d_sR (j2_))) (jd_)) (wa_ (d_sA 3 nd (uy_ (va_))) (wa_ (d_sF ui_ (zu_ (kak_ uak_ (za_ 1) (kg_ (ua_)) vc_)) (d_nm 4 nd) (wa_ (d_sA 5 nd (wm_ PySem.F.slot_str_split PySem.F.type_str_split qi_ (za_ 4) (ud_))) (wa_ (d_sI ((PW.pt (vy_ (ye_ (qt_ hu) (wq_ u2_ T.n_len w3_ (xa_ (za_ 5) (va_))) (ua_) (xc_ _)) (vy_ (k2_ (xd_ (hr.mono (by decide)) qa_ (xj_ T) (xa_ (kak_ uak_ (za_ 5) vc_ (kg_ (ua_))) (va_)))) (yae_ (k2_ (xd_ (hr.mono (by decide)) qa_ (xj_ T) (xa_ (wm_ PySem.F.slot_str_split PySem.F.type_str_split qi_ (d_ix vf_ (za_ 5) (ua_) (fun _ _ => rfl)) (ud_)) (va_))))))))) (ka_ (d_sR (j2_))) (jd_)) (ka_ (d_sA 3 nd (d_op zc_ (za_ 3) (uv_ (ns:=["_law_word"]) (zu_ (wm_ PySem.F.slot_str_split PySem.F.type_str_split qi_ (d_ix vf_ (za_ 5) (ua_) (fun _ _ => rfl)) (ud_))) (fun _ _ _ _ => (d_nm 9 xu_)) (fun _ _ _ _ => kae_) (fun _ _ _ _ => v7_ (xa_ (d_ty uaa_ T.n_int vas_ (xa_ (d_ix vf_ (za_ 5) (ua_) (fun _ _ => rfl)) (va_))) (xa_ (d_ty uaa_ T.n_int vas_ (xa_ (za_ 9) (va_))) (va_))))))))))) (wa_ (d_sA 6 nd (v7_ (xa_ (d_ix vf_ (za_ 2) (ua_) (fun _ _ => rfl)) (xa_ (za_ 3) (va_))))) (wa_ (d_sA 7 nd (j2_)) (wa_ (jal_ 8 nd T.c_BadWeb.bound T.x_BadWeb (fun _ _ ok => ka_ (d_sE (xd_ (hr.mono (by decide)) (kk_ ok) (uw_ T) (xa_ (za_ 6) (va_))))) (fun _ => ka_ (d_sA 7 nd (za_ 8)))) (ka_ (d_sR (vbl_ ((PW.pt (jak_ (k2_ (za_ 7)) (wak_ (ye_ (vo_ hu) (xd_ (hr.mono (by decide)) qa_ (qw_ T) (xa_ (za_ 6) (va_))) (za_ 0) (xc_ _)))))) (za_ 6) (j2_)))))))))))
theorem way_:FnScope ["_law_script","_law_web_here","_law_text_here","_law_k","_law_number","_law_at","_law_one","_law_some","_law_rows","_law_kept","_law_found","e","_law_due"] ["_law_script"] (jb_ xt_):=⟨rfl,rfl,rfl,by decide +kernel,rfl,by decide +kernel,by decide +kernel⟩
theorem qbg_ {f:Addr} {fd:FuncData} (F:Fun K "law" "law" xt_ f fd) (T:Txt K mg ad):FnOk P w K mg base (CXm P w false) 8 f fd ["_law_script"] (spD ⟨K,w,ad⟩ 1 va5_):=fn_D (k:=7) F way_ (by decide) (by
 rintro ⟨_,H0,G0⟩ cdv A outer s H E rfl hr
 have hu:=hr.units
 have hu0:=hr.units0
 have nd:=way_.nd
 exact wa_ (d_sA 1 nd (xd_ (hr.mono (by decide)) qa_ (vao_ T) (xa_ (za_ 0) (xa_ (ua_) (xa_ (ua_) (va_)))))) (wa_ (d_sA 2 nd (xd_ (hr.mono (by decide)) qa_ (qw_ T) (xa_ (za_ 1) (va_)))) (wa_ (d_sI ((PW.pt (vy_ (ye_ (qt_ hu) (xd_ (hr.mono (by decide)) qa_ (wt_ T) (xa_ (za_ 1) (va_))) (za_ 2) (xc_ _)) (yae_ (ye_ (qt_ hu) (xd_ (hr.mono (by decide)) qa_ (xay_ T) (xa_ (za_ 2) (va_))) (za_ 1) (xc_ _)))))) (ka_ (d_sR (d_bl))) (jd_)) (wa_ (d_sF ui_ (vv_ T.n_range (xa_ (d_op zc_ (ua_) (d_op uh_ (xd_ (hr.mono (by decide)) qa_ (xi_ T) (xa_ (za_ 0) (xa_ (ua_) (va_)))) (ua_))) (va_))) (d_nm 3 nd) (wa_ (d_sA 4 nd (xd_ (hr.mono (by decide)) qa_ (xi_ T) (xa_ (za_ 0) (xa_ (d_op zc_ (ua_) (za_ 3)) (va_))))) (wa_ (d_sA 5 nd (d_op uh_ (d_op xaa_ (za_ 4) (ua_)) (d_op zc_ (wq_ ual_ T.n_len w3_ (xa_ (za_ 2) (va_))) (ua_)))) (wa_ (d_sA 6 nd (d_ix wbm_ (ud_) (d_op uh_ (d_op xaa_ (za_ 4) (ua_)) (ua_)) (fun _ _ => rfl))) (wa_ (d_sA 7 nd (uy_ (xa_ (d_op zc_ (d_op zc_ (ul_ (za_ 2) vc_ (kg_ (za_ 5))) (za_ 6)) (ul_ (za_ 2) (kg_ (za_ 5)) vc_)) (xa_ (d_op zc_ (d_op zc_ (ul_ (za_ 2) vc_ (kg_ (za_ 5))) (za_ 6)) (ul_ (za_ 2) (kg_ (d_op zc_ (za_ 5) (ua_))) vc_)) (xa_ (d_op zc_ (ul_ (za_ 2) vc_ (kg_ (za_ 5))) (ul_ (za_ 2) (kg_ (d_op zc_ (za_ 5) (ua_))) vc_)) (va_)))))) (ka_ (d_sA 2 nd (d_ix vf_ (za_ 7) (d_op uh_ (za_ 4) (ua_)) (fun _ _ => rfl))))))))) (wa_ (d_sI ((PW.pt (jak_ (ye_ (vo_ hu) (d_op uh_ (xd_ (hr.mono (by decide)) qa_ (xi_ T) (xa_ (za_ 0) (xa_ (ua_) (va_)))) (ua_)) (ua_) (xc_ _)) (wak_ (ye_ (ja4_ hu0) (wm_ PySem.F.slot_str_count PySem.F.type_str_count jbf_ (za_ 2) (ud_)) (ua_) (xc_ _)))))) (wa_ (d_sA 8 nd (wm_ PySem.F.slot_str_split PySem.F.type_str_split qi_ (za_ 2) (ud_))) (ka_ (d_sA 2 nd (wm_ PySem.F.slot_str_join PySem.F.type_str_join vs_ (ud_) (d_op zc_ (uy_ (xa_ (d_ix vf_ (za_ 8) (ua_) (fun _ _ => rfl)) (va_))) (ybm_ (kak_ uak_ (za_ 8) (kg_ (ua_)) vc_))))))) (jd_)) (wa_ (d_sA 9 nd (j2_)) (wa_ (d_sA 10 nd (j2_)) (wa_ (jal_ 11 nd T.c_MarkError.bound T.x_MarkError (fun _ _ ok => ka_ (d_sA 10 nd (xd_ (hr.mono (by decide)) (kk_ ok) (xay_ T) (xa_ (za_ 2) (va_))))) (fun _ => ka_ (d_sA 9 nd (za_ 11)))) (wa_ (d_sA 12 nd (xd_ (hr.mono (by decide)) qa_ (q8_ T) (xa_ (za_ 2) (va_)))) (wa_ (d_sI (jbd_ (za_ 12)) (ka_ (d_sR (v2_ (jbl_ (za_ 9)) (xae_ (jy_ (vo_ hu) (za_ 10) (za_ 12) (xc_ _)))))) (jd_)) (wa_ (d_sI (ye_ (qt_ hu) (xd_ (hr.mono (by decide)) qa_ (yo_ T) (xa_ (za_ 9) (va_))) (ud_) (xc_ _)) (ka_ (d_sR (d_bl))) (jd_)) (wa_ (d_sA 9 nd (j2_)) (wa_ (jal_ 11 nd T.c_MarkError.bound T.x_MarkError (fun _ _ ok => ka_ (d_sE (xd_ (hr.mono (by decide)) (kk_ ok) (wt_ T) (xa_ (v7_ (xa_ (ua_) (xa_ (uy_ (va_)) (va_)))) (va_))))) (fun _ => ka_ (d_sA 9 nd (za_ 11)))) (ka_ (d_sR (jy_ (vo_ hu) (xd_ (hr.mono (by decide)) qa_ (yo_ T) (xa_ (za_ 9) (va_))) (ud_) (xc_ _)))))))))))))))))
end
end FW
set_option maxHeartbeats 8000000
namespace FW
open PySem PySem.Spec PyProof.Rows L2
section
open PySem.W
variable {K:Frag} {h:Heap} {mg:Str→Option Value}
structure Cq (K:Frag) (mg:Str→Option Value) (x:Str) (C:Addr):Prop where
 b:mg x = some (.ref C)
 x:excIn K C [.type "ValueError",.type "Exception",.type "BaseException",.type "object"] "ValueError.__new__" = true
 i:ExcIsi K C
 s:(clsIn K C).isSome = true
theorem cq {x:Str} {C:Addr} {co:Value} {cp:Option Addr} {cd:ClassData} {cr:Array (Option Value)} (X:K.In h) (G:h.Ns mainGlobals mg) (cg:specialIn K (.builtin "object.__class__") "__get__" = some (some (.builtin "getset_descriptor.__get__"))) (ct:takesIn K (.builtin "object.__class__") = some true) (ca:nsIn K mainGlobals x = some (some (.ref C)))
   (cx:excIn K C [.type "ValueError",.type "Exception",.type "BaseException",.type "object"] "ValueError.__new__" = true) (ci:findIn K (.ref C) "__getattribute__" = some (some (.builtin "BaseException.__getattribute__"))) (cj:findIn K (.ref C) "__getattr__" = some none) (ck:findIn K (.ref C) "__class__" = some (some (.builtin "object.__class__")))
   (cl:mroIn K C (.type "object") = some true) (cm:mroIn K C (.type "BaseException") = some true) (cn:K.lookup C = some ⟨co,cp,.cls cd,cr⟩):Cq K mg x C:=⟨mg_of X G ca,cx,⟨ci,cj,ck,cg,ct,cl,cm⟩,by unfold clsIn; rw [cn]; rfl⟩
theorem dq {x:Str} {st:Stmt} {ps:List Str} {f:Addr} {oc:Value} {od an:Option Addr} {osl:Array (Option Value)} {kV dc pm cd ct:Value} (X:K.In h) (G:h.Ns mainGlobals mg) (hb:∀ (kV doc pm:Value) (an:Option Addr) (cdv ct:Value) (us:List Value),us.length = ps.length→bindArgs (fnOf x x (uj_ st) (jg_ st) (jb_ st) .none kV doc pm an cdv ct) ⟨us,[]⟩ = pure (ps.zip us))
   (a:nsIn K mainGlobals x = some (some (.ref f))) (l:K.lookup f = some ⟨oc,od,.func (fnOf x x (uj_ st) (jg_ st) (jb_ st) .none kV dc pm an cd ct),osl⟩) (c:codeIn K cd x = true) (e:keepIn K (.ref f) = true):DefOk K mg x st ps:=⟨_,_,yai_ l c e,mg_of X G a,(yai_ (st:=st) l c e).binds hb⟩
theorem gq {x:Str} {i:Int} {t:Tok} (X:K.In h) (G:h.Ns mainGlobals mg) (a:nsIn K mainGlobals x = some (some (.int i t))):∃ t,mg x = some (.int i t):=⟨t,mg_of X G a⟩
theorem gs {x z:Str} {t:Tok} (X:K.In h) (G:h.Ns mainGlobals mg) (a:nsIn K mainGlobals x = some (some (.str z t))):∃ t,mg x = some (.str z t):=⟨t,mg_of X G a⟩
noncomputable def adOf (C0 C1 C2 C3 C4 C5:Addr) (n:String):Addr:=match n with
 | "MarkError" => C0
 | "BadWeb" => C1
 | "BadSet" => C2
 | "BadSteps" => C3
 | "BadTree" => C4
 | "BadText" => C5
 | _ => 0
theorem yg_ {Q:String→Prop} (h:Q "MarkError" ∧ Q "BadWeb" ∧ Q "BadSet" ∧ Q "BadSteps" ∧ Q "BadTree" ∧ Q "BadText"):∀ n,clss.contains n = true→Q n:=by
 intro n hn
 have hm:n ∈ clss:=by simpa using hn
 unfold clss at hm
 simp only [List.mem_cons,List.not_mem_nil,or_false] at hm
 obtain ⟨h0,h1,h2,h3,h4,h5⟩:=h
 rcases hm with rfl | rfl | rfl | rfl | rfl | rfl
 · exact h0
 · exact h1
 · exact h2
 · exact h3
 · exact h4
 · exact h5
theorem zbh_ {l:OpenLaw} {w:World} {fa f:Addr} {C0 C1 C2 C3 C4 C5:Addr} {oc:Value} {od an:Option Addr} {osl:Array (Option Value)} {kV dc pm cd ct:Value} (X:K.In h) (G:h.Ns mainGlobals mg) (hfa:mg "law" = some (.ref fa))
   (a:nsIn K mainGlobals "law" = some (some (.ref f))) (l_:K.lookup f = some ⟨oc,od,.func (fnOf "law" "law" (uj_ xt_) (jg_ xt_) (jb_ xt_) .none kV dc pm an cd ct),osl⟩) (c:codeIn K cd "law" = true) (e:keepIn K (.ref f) = true)
   (z_ValueError:mg "ValueError" = none) (z_all:mg "all" = none) (z_int:mg "int" = none) (z_isinstance:mg "isinstance" = none)
   (z_len:mg "len" = none) (z_range:mg "range" = none) (z_str:mg "str" = none) (g_MOST_SPOTS:∃ t,mg "MOST_SPOTS" = some (.int 10 t))
   (g_HEAD:∃ t,mg "HEAD" = some (.str (PySem.Str.ofString "spots ") t)) (c0:Cq K mg "MarkError" C0) (c1:Cq K mg "BadWeb" C1) (c2:Cq K mg "BadSet" C2)
   (c3:Cq K mg "BadSteps" C3) (c4:Cq K mg "BadTree" C4) (c5:Cq K mg "BadText" C5) (k_BadSet0:kitOne K (.ref C0) (.ref C2) = some false)
   (k_BadSet1:kitOne K (.ref C1) (.ref C2) = some false) (k_BadSet2:kitOne K (.ref C2) (.ref C2) = some true) (k_BadSet3:kitOne K (.ref C3) (.ref C2) = some false) (k_BadSet4:kitOne K (.ref C4) (.ref C2) = some false)
   (k_BadSet5:kitOne K (.ref C5) (.ref C2) = some false) (k_BadSteps0:kitOne K (.ref C0) (.ref C3) = some false) (k_BadSteps1:kitOne K (.ref C1) (.ref C3) = some false) (k_BadSteps2:kitOne K (.ref C2) (.ref C3) = some false)
   (k_BadSteps3:kitOne K (.ref C3) (.ref C3) = some true) (k_BadSteps4:kitOne K (.ref C4) (.ref C3) = some false) (k_BadSteps5:kitOne K (.ref C5) (.ref C3) = some false) (k_BadText0:kitOne K (.ref C0) (.ref C5) = some false)
   (k_BadText1:kitOne K (.ref C1) (.ref C5) = some false) (k_BadText2:kitOne K (.ref C2) (.ref C5) = some false) (k_BadText3:kitOne K (.ref C3) (.ref C5) = some false) (k_BadText4:kitOne K (.ref C4) (.ref C5) = some false)
   (k_BadText5:kitOne K (.ref C5) (.ref C5) = some true) (k_BadTree0:kitOne K (.ref C0) (.ref C4) = some false) (k_BadTree1:kitOne K (.ref C1) (.ref C4) = some false) (k_BadTree2:kitOne K (.ref C2) (.ref C4) = some false)
   (k_BadTree3:kitOne K (.ref C3) (.ref C4) = some false) (k_BadTree4:kitOne K (.ref C4) (.ref C4) = some true) (k_BadTree5:kitOne K (.ref C5) (.ref C4) = some false) (k_BadWeb0:kitOne K (.ref C0) (.ref C1) = some false)
   (k_BadWeb1:kitOne K (.ref C1) (.ref C1) = some true) (k_BadWeb2:kitOne K (.ref C2) (.ref C1) = some false) (k_BadWeb3:kitOne K (.ref C3) (.ref C1) = some false) (k_BadWeb4:kitOne K (.ref C4) (.ref C1) = some false)
   (k_BadWeb5:kitOne K (.ref C5) (.ref C1) = some false) (k_ValueError0:kitOne K (.ref C0) (.type "ValueError") = some true) (k_ValueError1:kitOne K (.ref C1) (.type "ValueError") = some true) (k_ValueError2:kitOne K (.ref C2) (.type "ValueError") = some true)
   (k_ValueError3:kitOne K (.ref C3) (.type "ValueError") = some true) (k_ValueError4:kitOne K (.ref C4) (.type "ValueError") = some true) (k_ValueError5:kitOne K (.ref C5) (.type "ValueError") = some true) (x_BadWeb1:exmOne K (.ref C1) (.ref C1) = some true)
   (x_MarkError0:exmOne K (.ref C0) (.ref C0) = some true) (x_MarkError1:exmOne K (.ref C1) (.ref C0) = some true) (x_MarkError2:exmOne K (.ref C2) (.ref C0) = some true) (x_MarkError3:exmOne K (.ref C3) (.ref C0) = some true)
   (x_MarkError4:exmOne K (.ref C4) (.ref C0) = some true) (x_MarkError5:exmOne K (.ref C5) (.ref C0) = some true) (q0:DefOk K mg "rises" wao_ ["things"]) (q1:DefOk K mg "is_set" xac_ ["count","some"])
   (q2:DefOk K mg "is_line" y5_ ["count","line"]) (q3:DefOk K mg "look_web" ww_ ["web"]) (q4:DefOk K mg "row_of" wac_ ["spot","others"]) (q5:DefOk K mg "written" x5_ ["web"])
   (q6:DefOk K mg "number_below" ql_ ["bound","word"]) (q7:DefOk K mg "lines_in" jw_ ["row","count"]) (q8:DefOk K mg "written_or_refused" qf_ ["web"]) (q9:DefOk K mg "read" yay_ ["text"])
   (q10:DefOk K mg "_law_cell" kw_ ["_law_script","_law_k"]) (q11:DefOk K mg "_law_mix" w5_ ["_law_script","_law_k"]) (q12:DefOk K mg "_law_web" j5_ ["_law_script","_law_k","_law_most"]) (q13:DefOk K mg "_law_refusal" qn_ ["_law_kept"])
   (q14:DefOk K mg "_law_text" vw_ ["_law_web_here"]) (q15:DefOk K mg "_law_numbers" zo_ ["_law_words"]) (q16:DefOk K mg "_law_tried" yt_ ["_law_text_here"]) (q17:DefOk K mg "law" xt_ ["_law_script"])
  :∃ fd:FuncData,(∀ (s:Shared) (v:Value),BindsTo s fd ⟨[v],[]⟩ [("_law_script",v)]) ∧ ∀ base:Heap,K.In base→base.Ns mainGlobals mg→FnOk l.prog w K mg base (CXm l.prog w false) 8 fa fd ["_law_script"] (yas_ K):=by
 have e1:=hfa.symm.trans (mg_of X G a)
 cases e1
 have T:Txt K mg (adOf C0 C1 C2 C3 C4 C5):=⟨z_ValueError,z_all,z_int,z_isinstance,z_len,z_range,z_str,g_MOST_SPOTS,g_HEAD,⟨c0.b,c0.x⟩,⟨c1.b,c1.x⟩,⟨c2.b,c2.x⟩,⟨c3.b,c3.x⟩,⟨c4.b,c4.x⟩,⟨c5.b,c5.x⟩,⟨yg_ ⟨⟨c0.i,c0.s⟩,⟨c1.i,c1.s⟩,⟨c2.i,c2.s⟩,⟨c3.i,c3.s⟩,⟨c4.i,c4.s⟩,⟨c5.i,c5.s⟩⟩⟩,yg_ ⟨k_BadSet0,k_BadSet1,k_BadSet2,k_BadSet3,k_BadSet4,k_BadSet5⟩,yg_ ⟨k_BadSteps0,k_BadSteps1,k_BadSteps2,k_BadSteps3,k_BadSteps4,k_BadSteps5⟩,yg_ ⟨k_BadText0,k_BadText1,k_BadText2,k_BadText3,k_BadText4,k_BadText5⟩,yg_ ⟨k_BadTree0,k_BadTree1,k_BadTree2,k_BadTree3,k_BadTree4,k_BadTree5⟩,yg_ ⟨k_BadWeb0,k_BadWeb1,k_BadWeb2,k_BadWeb3,k_BadWeb4,k_BadWeb5⟩,yg_ ⟨k_ValueError0,k_ValueError1,k_ValueError2,k_ValueError3,k_ValueError4,k_ValueError5⟩,fun n hn => by rw [Bool.and_eq_true] at hn; revert hn; rintro ⟨h1,h2⟩; revert h2; revert h1; revert n; exact yg_ ⟨fun z => (by cases z),fun _ => x_BadWeb1,fun z => (by cases z),fun z => (by cases z),fun z => (by cases z),fun z => (by cases z)⟩,fun n hn => by rw [Bool.and_eq_true] at hn; revert hn; rintro ⟨h1,h2⟩; revert h2; revert h1; revert n; exact yg_ ⟨fun _ => x_MarkError0,fun _ => x_MarkError1,fun _ => x_MarkError2,fun _ => x_MarkError3,fun _ => x_MarkError4,fun _ => x_MarkError5⟩,q0,q1,q2,q3,q4,q5,q6,q7,q8,q9,q10,q11,q12,q13,q14,q15,q16,q17⟩
 exact ⟨fnOf "law" "law" (uj_ xt_) (jg_ xt_) (jb_ xt_) .none kV dc pm an cd ct,fun s v => .of_eq rfl,fun base _ _ => wbf_ (qbg_ (yai_ (st:=xt_) l_ c e) T) law_true⟩
end
end FW
open PySem PySem.W PyProof.Rows
set_option maxRecDepth 100000 in
set_option maxHeartbeats 0 in
theorem PySem.Challenge.cw_forcemark_k30_texts_holds : PySem.Challenge.rw_forcemark_k30_texts.Holds := by
 w_on; o_law; k_head; (case hw => w_witness2)
 k_fill
 refine L2.xas_ (l:=PySem.Challenge.rw_forcemark_k30_texts) (k:=8) (x:="_law_script") rfl rfl ⟨rfl,by decide,by decide⟩ (fun w h Y => PySem.W.kIn_of Y) ?F
 case F =>
   intro w mg fa h KX G hmg
   refine' FW.zbh_ KX G hmg ?a0 ?a1 ?a2 ?a3 (mg_none_of KX G ?a4) (mg_none_of KX G ?a5) (mg_none_of KX G ?a6) (mg_none_of KX G ?a7) (mg_none_of KX G ?a8) (mg_none_of KX G ?a9) (mg_none_of KX G ?a10) (FW.gq KX G ?a11) (FW.gs KX G ?a12) (FW.cq KX G ?a13 ?a14 ?a15 ?a16 ?a17 ?a18 ?a19 ?a20 ?a21 ?a22) (FW.cq KX G ?a13 ?a14 ?a23 ?a24 ?a25 ?a26 ?a27 ?a28 ?a29 ?a30) (FW.cq KX G ?a13 ?a14 ?a31 ?a32 ?a33 ?a34 ?a35 ?a36 ?a37 ?a38) (FW.cq KX G ?a13 ?a14 ?a39 ?a40 ?a41 ?a42 ?a43 ?a44 ?a45 ?a46) (FW.cq KX G ?a13 ?a14 ?a47 ?a48 ?a49 ?a50 ?a51 ?a52 ?a53 ?a54) (FW.cq KX G ?a13 ?a14 ?a55 ?a56 ?a57 ?a58 ?a59 ?a60 ?a61 ?a62) ?a63 ?a64 ?a65 ?a66 ?a67 ?a68 ?a69 ?a70 ?a71 ?a72 ?a73 ?a74 ?a75 ?a76 ?a77 ?a78 ?a79 ?a80 ?a81 ?a82 ?a83 ?a84 ?a85 ?a86 ?a87 ?a88 ?a89 ?a90 ?a91 ?a92 ?a93 ?a94 ?a95 ?a96 ?a97 ?a98 ?a99 ?a100 ?a101 ?a102 ?a103 ?a104 ?a105 (FW.dq KX G (fun _ _ _ _ _ _ => L2.mt1 fun _ => rfl) ?a106 ?a107 ?a108 ?a109) (FW.dq KX G (fun _ _ _ _ _ _ => L2.mt2 fun _ _ => rfl) ?a110 ?a111 ?a112 ?a113) (FW.dq KX G (fun _ _ _ _ _ _ => L2.mt2 fun _ _ => rfl) ?a114 ?a115 ?a116 ?a117) (FW.dq KX G (fun _ _ _ _ _ _ => L2.mt1 fun _ => rfl) ?a118 ?a119 ?a120 ?a121) (FW.dq KX G (fun _ _ _ _ _ _ => L2.mt2 fun _ _ => rfl) ?a122 ?a123 ?a124 ?a125) (FW.dq KX G (fun _ _ _ _ _ _ => L2.mt1 fun _ => rfl) ?a126 ?a127 ?a128 ?a129) (FW.dq KX G (fun _ _ _ _ _ _ => L2.mt2 fun _ _ => rfl) ?a130 ?a131 ?a132 ?a133) (FW.dq KX G (fun _ _ _ _ _ _ => L2.mt2 fun _ _ => rfl) ?a134 ?a135 ?a136 ?a137) (FW.dq KX G (fun _ _ _ _ _ _ => L2.mt1 fun _ => rfl) ?a138 ?a139 ?a140 ?a141) (FW.dq KX G (fun _ _ _ _ _ _ => L2.mt1 fun _ => rfl) ?a142 ?a143 ?a144 ?a145) (FW.dq KX G (fun _ _ _ _ _ _ => L2.mt2 fun _ _ => rfl) ?a146 ?a147 ?a148 ?a149) (FW.dq KX G (fun _ _ _ _ _ _ => L2.mt2 fun _ _ => rfl) ?a150 ?a151 ?a152 ?a153) (FW.dq KX G (fun _ _ _ _ _ _ => L2.mt3 fun _ _ _ => rfl) ?a154 ?a155 ?a156 ?a157) (FW.dq KX G (fun _ _ _ _ _ _ => L2.mt1 fun _ => rfl) ?a158 ?a159 ?a160 ?a161) (FW.dq KX G (fun _ _ _ _ _ _ => L2.mt1 fun _ => rfl) ?a162 ?a163 ?a164 ?a165) (FW.dq KX G (fun _ _ _ _ _ _ => L2.mt1 fun _ => rfl) ?a166 ?a167 ?a168 ?a169) (FW.dq KX G (fun _ _ _ _ _ _ => L2.mt1 fun _ => rfl) ?a170 ?a171 ?a172 ?a173) (FW.dq KX G (fun _ _ _ _ _ _ => L2.mt1 fun _ => rfl) ?a0 ?a1 ?a2 ?a3)
   case a0 | a1 | a2 | a3 | a4 | a5 | a6 | a7 | a8 | a9 | a10 | a11 | a12 | a13 | a14 | a15 => k_is
   case a16 => k_exc
   case a17 | a18 | a19 | a20 | a21 | a22 | a23 => k_is
   case a24 => k_exc
   case a25 | a26 | a27 | a28 | a29 | a30 | a31 => k_is
   case a32 => k_exc
   case a33 | a34 | a35 | a36 | a37 | a38 | a39 => k_is
   case a40 => k_exc
   case a41 | a42 | a43 | a44 | a45 | a46 | a47 => k_is
   case a48 => k_exc
   case a49 | a50 | a51 | a52 | a53 | a54 | a55 => k_is
   case a56 => k_exc
   case a57 | a58 | a59 | a60 | a61 | a62 => k_is
   case a63 | a64 | a65 | a66 | a67 | a68 | a69 | a70 | a71 | a72 | a73 | a74 | a75 | a76 | a77 | a78 | a79 | a80 | a81 | a82 | a83 | a84 | a85 | a86 | a87 | a88 | a89 | a90 | a91 | a92 | a93 | a94 | a95 | a96 | a97 | a98 => kit_is
   case a99 | a100 | a101 | a102 | a103 | a104 | a105 => kts_exm
   case a106 | a107 | a108 | a109 | a110 | a111 | a112 | a113 | a114 | a115 | a116 | a117 | a118 | a119 | a120 | a121 | a122 | a123 | a124 | a125 | a126 | a127 | a128 | a129 | a130 | a131 | a132 | a133 | a134 | a135 | a136 | a137 | a138 | a139 | a140 | a141 | a142 | a143 | a144 | a145 | a146 | a147 | a148 | a149 | a150 | a151 | a152 | a153 | a154 | a155 | a156 | a157 | a158 | a159 | a160 | a161 | a162 | a163 | a164 | a165 | a166 | a167 | a168 | a169 | a170 | a171 | a172 | a173 => k_is
