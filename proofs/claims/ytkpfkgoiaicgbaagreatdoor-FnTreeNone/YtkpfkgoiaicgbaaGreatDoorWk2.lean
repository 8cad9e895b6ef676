/- A drawn region by hand: what is always the same is filled in. -/
import Derived.Test.YtkpfkgoiaicgbaaGreatDoorM2
import Derived.Deep.RegionHeld3
set_option linter.unusedSimpArgs false
set_option linter.unusedVariables false
namespace Go
theorem MY{P:Program}{ops:Array Oper}{Q:Exit->Act->World->Prop}{md:Region.Mode}{S:World->Prop}(i:Nat)(v:Value){o:Oper}{f:Nat}{l:Array Bool}{a:Act}{w:World}(g:ops[i]?=some o)(y:YieldsIf P ops S o v a)(s:S w)
  (h:wpAnyH P md ops Q S f (l.setIfInBounds i true) (a.put o.dst v) w) (b:(Region.noSelect ops&&Region.free md ops l i&&(Region.ready md ops l).contains i)=true:=by kernel_rfl)
  (e:∀c a w,Q (.panic c) (a.put o.dst v) w->Q (.panic c) a w:=by exact fun _ _ _ h=>h):wpAnyH P md ops Q S (f+1) l a w:=by
 simp only[Bool.and_eq_true]at b;exact wpAnyH_take g b.1.1 b.1.2 b.2 e y s h
theorem ge{P:Program}{ops:Array Oper}{Q:Exit->Act->World->Prop}{md:Region.Mode}{S:World->Prop}(i:Nat)(v:Value){o:Oper}{f:Nat}{l:Array Bool}{a:Act}{w:World}(g:ops[i]?=some o)(d:∀w,S w->(execOp a.eval o).run P w = .ok (.value v) w)(s:S w)
  (h:wpAnyH P md ops Q S f (l.setIfInBounds i true) (a.put o.dst v) w) (b:(Region.noSelect ops&&Region.free md ops l i&&(Region.ready md ops l).contains i)=true:=by kernel_rfl)
  (e:∀c a w,Q (.panic c) (a.put o.dst v) w->Q (.panic c) a w:=by exact fun _ _ _ h=>h) (r:Region.wanted o (yielded ops a.tmps)=true:=by exact rfl):wpAnyH P md ops Q S (f+1) l a w:=
 MY i v g (Or.inl ⟨r,d⟩) s h b e
theorem rU{P:Program}{ops:Array Oper}{Q:Exit->Act->World->Prop}{md:Region.Mode}{S:World->Prop}(i:Nat){o:Oper}{f:Nat}{l:Array Bool}{a:Act}{w:World}
  (h:∀K':Act->World->Prop,Shut (∀a w,S w->(S w->wpAnyH P md ops Q S f (l.setIfInBounds i true) a w)->K' a w)->if Region.wanted o (yielded ops a.tmps)=true then Oper.wp P o a w K' Q else K' (a.put o.dst undef) w)
  (b:ops[i]?=some o:=by exact rfl) (c:Region.ready md ops l=[i]:=by kernel_rfl):wpAnyH P md ops Q S (f+1) l a w:=wpAnyH_ready c (by simp) (AllReadyH.cons b h AllReadyH.nil)
end Go
