/- Package model: what a call tells. -/
import Derived.Test.YtfnpapaibgbjpaaZK
namespace Go.Proofs.Ytfnpapaibgbjpaa
open Go.RowKit Go.Maps

/-- Is a key there? -/
def th (l : List It) (x : Int) : Bool := match l[pl x l]? with | some it => it.k == x | none => false
/-- What a call tells. -/
def tl (l : List It) (kd key high : Int) : RV :=
  if kd = 1 then (if th l key then (100, 0, [], [], false) else (0, 0, [], [], false))
  else if kd = 2 then (if th l key then (0, 0, [], [], false) else (101, 0, [], [], false))
  else if kd = 3 then (if th l key then (match l[pl key l]? with | some it => (0, it.k, it.bs, [], true) | none => (101, 0, [], [], false)) else (101, 0, [], [], false))
  else if kd = 4 then (match l[pl key l]? with | some it => (0, it.k, it.bs, [], true) | none => (101, 0, [], [], false))
  else if kd = 5 then rgV (l.drop (pl key l)) high
  else (0, 0, [], [], false)

end Go.Proofs.Ytfnpapaibgbjpaa
