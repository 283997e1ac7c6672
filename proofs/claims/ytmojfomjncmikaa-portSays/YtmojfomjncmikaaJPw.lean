/-
  Open, Pass, Push, Pull, Shut, Check of package port, at the landed code: all in one place.
-/
import Derived.Test.YtmojfomjncmikaaJPwf
import Derived.Test.YtmojfomjncmikaaJPwg
namespace Go.Proofs.Ytmojfomjncmikaa
theorem port_all : OpenAnsX ∧ PassAnsX ∧ PushAnsX ∧ PullAnsX ∧ ShutAnsX ∧ PCheckAns := ⟨open_ansX, pass_ansX, push_ansX, pull_ansX, shut_ansX, pcheck_ans⟩
end Go.Proofs.Ytmojfomjncmikaa
