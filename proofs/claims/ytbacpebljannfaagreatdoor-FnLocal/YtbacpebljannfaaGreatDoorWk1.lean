/- One condition more in a drawn region. -/
import Derived.Test.YtbacpebljannfaaGreatDoorM3
import Derived.Deep.RegionHeld3
set_option linter.unusedSimpArgs false
namespace Go.Proofs.YtbacpebljannfaaGreatDoor
open Go.RowKit
theorem ah{P : Program}{ops : Array Oper}{Q : Exit -> Act -> World -> Prop}{md : Region.Mode}{S : World -> Prop}(i : Nat)(v : Value){oi : Oper}{fuel : Nat}{listed : Array Bool}{a : Act}{w : World}(hi : ops[i]? = some oi)(hb : (Region.noSelect ops && Region.free md ops listed i && (Region.ready md ops listed).contains i) = true)(hQ : ∀c a w, Q (.panic c) (a.put oi.dst v) w -> Q (.panic c) a w)(h0 : Region.wanted oi (yielded ops a.tmps) = true)(h1 : ∀w, S w -> (execOp a.eval oi).run P w = .ok (.value v) w)(hS : S w)(h : wpAnyH P md ops Q S fuel (listed.setIfInBounds i true) (a.put oi.dst v) w) : wpAnyH P md ops Q S (fuel + 1) listed a w := by
 simp only[a0n]at hb;exact wpAnyH_take hi hb.1.1 hb.1.2 hb.2 hQ (a0v ⟨h0, h1⟩) hS h
theorem ai{P : Program}{ops : Array Oper}{Q : Exit -> Act -> World -> Prop}{md : Region.Mode}{S : World -> Prop}(i : Nat){o : Oper}{fuel : Nat}{listed : Array Bool}{a : Act}{w : World}(hr : Region.ready md ops listed = [i])(ho : ops[i]? = some o)(h : ∀K' : Act -> World -> Prop, Shut (∀a w, S w -> (S w -> wpAnyH P md ops Q S fuel (listed.setIfInBounds i true) a w) -> K' a w) -> if Region.wanted o (yielded ops a.tmps) = true then Oper.wp P o a w K' Q else K' (a.put o.dst undef) w) : wpAnyH P md ops Q S (fuel + 1) listed a w := wpAnyH_ready hr (by simp) (AllReadyH.cons ho h AllReadyH.nil)
theorem mO{P:Program}{md:Region.Mode}{ops:Array Oper}{Q:Exit->Act->World->Prop}{S S':World->Prop}(hS:∀w,S' w->S w):∀(fuel:Nat) (listed:Array Bool) (a:Act) (w:World),wpAnyH P md ops Q S' fuel listed a w->wpAnyH P md ops Q S fuel listed a w
 | 0,_,_,_,h=>h
 | fuel+1,_,_,_,h=>⟨h.1,fun i hi=>wpOp_mono (fun a' w' h'=>⟨hS _ h'.1,mO hS fuel _ a' w' h'.2⟩) (h.2 i hi)⟩
end Go.Proofs.YtbacpebljannfaaGreatDoor
