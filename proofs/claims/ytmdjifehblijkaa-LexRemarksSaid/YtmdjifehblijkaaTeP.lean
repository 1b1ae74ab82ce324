/- models of functions and their walks -/
import Derived.Test.YtmdjifehblijkaaPaQ
import Derived.Test.YtmdjifehblijkaaHv
namespace Go.Proofs.Ytmdjifehblijkaa
open Go Go.RowKit Go.Eng
theorem parse_t (s : List UInt8) (b : Int) (hs : s.length ≤ 4611686018427387904) : Gives Try.prog 40 #[Value.string (⟨(s).toArray⟩), Value.int .i64 b] (Value.tuple #[Value.agg #[U (hi ((parseR s b).1)), U (lo ((parseR s b).1))], Value.int .i64 ((parseR s b).2)]) :=
  word_Parse_g (s.length + 1) s b _ (parse_s _ s b hs (by omega))
theorem halves_t (x : BitVec 128) : Gives Try.prog 33 #[Value.agg (rowF (BitVec.getLsbD (x)))] (Value.tuple #[U (hi (x)), U (lo (x))]) := shunterref01_Halves_g 65 x _ (halves_s 65 x (by omega))
end Go.Proofs.Ytmdjifehblijkaa
/- What the document's digits are. Conditions: none. -/
namespace Go.Proofs.Ytmdjifehblijkaa
open Go Go.RowKit Go.Eng
theorem rparse_t (s : List UInt8) (b : Int) (hs : s.length ≤ 4611686018427387904) : Gives Try.prog 31 #[Value.string (⟨(s).toArray⟩), Value.int .i64 b] (Value.tuple #[Value.agg (rowF (BitVec.getLsbD ((parseR s b).1))), Value.int .i64 ((parseR s b).2)]) :=
  shunterref01_Parse_g (s.length + 17) s b _ (rparse_s _ s b hs (by omega) (by omega))
end Go.Proofs.Ytmdjifehblijkaa
