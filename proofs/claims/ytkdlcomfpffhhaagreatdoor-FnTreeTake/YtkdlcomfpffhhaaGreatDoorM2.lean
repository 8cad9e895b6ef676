/- Of what the proof is made: 3 texts, one behind the other. -/
import Derived.Laws.BitsAllLaws
import Derived.Deep.RegionLawGrows
import Derived.Deep.RegionHeld3
set_option linter.unusedSimpArgs false
set_option linter.unusedVariables false
namespace Go
theorem fB(n:Nat)(h:n<9223372036854775808):IntKind.i64.wrap (n:Int)=(n:Int):=by
 simp[IntKind.wrap,IntKind.bits,IntKind.signed];omega
theorem kJ(a b:Nat)(c:a<9223372036854775808)(hb:b<9223372036854775808):bits .and .i64 (a:Int) (b:Int)=((a &&& b:Nat):Int):=by
 have d:a &&& b<2 ^ 63:=Nat.and_lt_two_pow _ (by omega);show IntKind.i64.wrap ((BitVec.ofInt 64 (a:Int) &&& BitVec.ofInt 64 (b:Int)).toNat:Int)=_;rw[BitVec.toNat_and,ofInt_u64 a (by omega),ofInt_u64 b (by omega)];exact fB _ (by omega)
theorem mD(a b:Nat)(c:a<9223372036854775808)(hb:b<9223372036854775808):bits .or .i64 (a:Int) (b:Int)=((a ||| b:Nat):Int):=by
 have d:a ||| b<2 ^ 63:=Nat.or_lt_two_pow (by omega) (by omega);show IntKind.i64.wrap ((BitVec.ofInt 64 (a:Int) ||| BitVec.ofInt 64 (b:Int)).toNat:Int)=_;rw[BitVec.toNat_or,ofInt_u64 a (by omega),ofInt_u64 b (by omega)];exact fB _ (by omega)
theorem pR(a b:Nat)(c:a<9223372036854775808)(hb:b<9223372036854775808):bits .xor .i64 (a:Int) (b:Int)=((a ^^^ b:Nat):Int):=by
 have d:a ^^^ b<2 ^ 63:=Nat.xor_lt_two_pow (by omega) (by omega);show IntKind.i64.wrap ((BitVec.ofInt 64 (a:Int) ^^^ BitVec.ofInt 64 (b:Int)).toNat:Int)=_;rw[BitVec.toNat_xor,ofInt_u64 a (by omega),ofInt_u64 b (by omega)];exact fB _ (by omega)
theorem xP(n:Int)(b:0<=n)(c:n<9223372036854775808):bits .and .i64 n 65535=n%65536:=by
 obtain⟨a,rfl⟩:=Int.eq_ofNat_of_zero_le b;have:=kJ a 65535 (by omega) (by omega);rw[show((65535:Nat):Int)=65535 from rfl]at this;rw[this,nat_mask16];omega
theorem pQ(n:Int)(b:0<=n)(c:n<9223372036854775808):bits .and .i64 n 1=n%2:=by
 obtain⟨a,rfl⟩:=Int.eq_ofNat_of_zero_le b;have:=kJ a 1 (by omega) (by omega);rw[show((1:Nat):Int)=1 from rfl]at this;rw[this,nat_mask1];omega
end Go
namespace Go
theorem ak{P:Program}{ops:Array Oper}{o:Oper}{a:Act}{w:World}{K:Act->World->Prop}{Q:Exit->Act->World->Prop}{E:Prop}
  (F:o.guard=none) (s x:Operand) (t:TypeId) (g:o.op=Op.call { callee:=Callee.builtin Builtin.append,args:=#[s,x],argTypes:=#[t,t] })
  (base:Nat) (e:TypeId) (i:TypeInfo) (z:Value) (size bytes:Nat) (p:P.underlying t=some (.slice e)) (h2:P.info? e=some i) (q:i.zero=some z) (r:i.size=size) (y:i.bytes=bytes) (A:z.cells.size=size) (B:0<size)
  (v:Value) (n:Nat) (xs:List Value) (H:a.eval s=v) (b:w.ownsRow base e size v n xs)
  (ad:Addr) (m c:Nat) (news:List Value) (J:a.eval x = .slice (some ad) m c) (G:news.length=m*size) (D:∀j u,news[j]?=some u->w.cell? (ad.add j)=some u) (f:∀u∈news,u.oneCell'=true)
  (h:n+m<=maxLen) (k:(n+m)*bytes<=140737488355328) (l:base<=w.heap.size)
  (C:∀v' w',w'.ownsRow base e size v' (n+m) (xs++news)->w.grownBy w' v.ownBlock->(v' = .slice none 0 0<->v = .slice none 0 0/\m=0)->K (a.put o.dst v') w') :
  if Region.wanted o (yielded ops a.tmps)=true then Oper.wp P o a w K Q else E:=by
 have I:Region.wanted o (yielded ops a.tmps)=true:=by simp[Region.wanted,F]
 rw[if_pos I];obtain⟨v',w',d,L,M,N⟩:=run_append_own (P:=P) w base t o.type e i z size bytes p h2 q r y A B v n xs b ad m c news G D f h k l;unfold Oper.wp;simp[execOp,g,resolve,invoke,builtin,H,J,d,Result.andThen];exact C v' w' L M N
theorem gQ{P:Program}{ops:Array Oper}{o:Oper}{a:Act}{w:World}{K:Act->World->Prop}{Q:Exit->Act->World->Prop}{E:Prop}(d:Nat)(_:o.dst=some d)(h:if Region.wanted o (yielded ops a.tmps)=true then Oper.wp P o a w K Q else E):if Region.wanted o (yielded ops a.tmps)=true then Oper.wp P o a w K Q else E:=h
end Go
namespace Go
variable {P:Program}{Q:Exit->Act->World->Prop}{S:World->Prop}{a:Act}{f:Nat}{l:Array Bool}{md:Region.Mode}{o:Oper}{ops:Array Oper}{w:World}
theorem Oa(i:Nat)(v:Value)(g:ops[i]?=some o)(y:YieldsIf P ops S o v a)(s:S w)
  (h:wpAnyH P md ops Q S f (l.setIfInBounds i true) (a.put o.dst v) w) (b:(Region.noSelect ops&&Region.free md ops l i&&(Region.ready md ops l).contains i)=true:=by kernel_rfl)
  (e:∀c a w,Q (.panic c) (a.put o.dst v) w->Q (.panic c) a w:=by exact fun _ _ _ h=>h):wpAnyH P md ops Q S (f+1) l a w:=by
 simp only[Bool.and_eq_true]at b;exact wpAnyH_take g b.1.1 b.1.2 b.2 e y s h
theorem dP(i:Nat)(v:Value)(g:ops[i]?=some o)(d:∀w,S w->(execOp a.eval o).run P w = .ok (.value v) w)(s:S w)
  (h:wpAnyH P md ops Q S f (l.setIfInBounds i true) (a.put o.dst v) w) (b:(Region.noSelect ops&&Region.free md ops l i&&(Region.ready md ops l).contains i)=true:=by kernel_rfl)
  (e:∀c a w,Q (.panic c) (a.put o.dst v) w->Q (.panic c) a w:=by exact fun _ _ _ h=>h) (r:Region.wanted o (yielded ops a.tmps)=true:=by exact rfl):wpAnyH P md ops Q S (f+1) l a w:=
 Oa i v g (Or.inl ⟨r,d⟩) s h b e
theorem sP(i:Nat)
  (h:∀K':Act->World->Prop,Shut (∀a w,S w->(S w->wpAnyH P md ops Q S f (l.setIfInBounds i true) a w)->K' a w)->if Region.wanted o (yielded ops a.tmps)=true then Oper.wp P o a w K' Q else K' (a.put o.dst undef) w)
  (b:ops[i]?=some o:=by exact rfl) (c:Region.ready md ops l=[i]:=by kernel_rfl):wpAnyH P md ops Q S (f+1) l a w:=wpAnyH_ready c (by simp) (AllReadyH.cons b h AllReadyH.nil)
end Go
