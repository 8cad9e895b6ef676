/- Of what the proof is made: 3 texts, one behind the other. -/
import Derived.Test.YtchidddpplangaaGreatDoorRows
import Derived.ChangeSame
import Derived.ChangeOld
import Derived.ProofKit
import Derived.OpenShut
import Derived.Test.YtchidddpplangaaGreatDoorM3
import Derived.Deep.RegionHeld3
import Derived.Lib.Strings
set_option linter.unusedSimpArgs false
set_option linter.unusedVariables false
set_option maxHeartbeats 800000
namespace Go.Proofs.YtchidddpplangaaGreatDoor
open Go.Proofs.Tryz
open Go.ChangeShapes Go.WideShapes Go.ChangeAt Go.RowKit
theorem af{P : Program}{ops : Array Oper}{Q : Exit -> Act -> World -> Prop}{md : Region.Mode}{S : World -> Prop}(i : Nat)(v : Value){oi : Oper}{fuel : Nat}{listed : Array Bool}{a : Act}{w : World}(g : ops[i]? = some oi)(hb : (Region.noSelect ops && Region.free md ops listed i && (Region.ready md ops listed).contains i) = true)(e : ∀c a w, Q (.panic c) (a.put oi.dst v) w -> Q (.panic c) a w)(b : Region.wanted oi (yielded ops a.tmps) = true)(d : ∀w, S w -> (execOp a.eval oi).run P w = .ok (.value v) w)(f : S w)(h : wpAnyH P md ops Q S fuel (listed.setIfInBounds i true) (a.put oi.dst v) w) : wpAnyH P md ops Q S (fuel + 1) listed a w := by
 simp only[a0o]at hb;exact wpAnyH_take g hb.1.1 hb.1.2 hb.2 e (a0n ⟨b, d⟩) f h
theorem ag{P : Program}{ops : Array Oper}{Q : Exit -> Act -> World -> Prop}{md : Region.Mode}{S : World -> Prop}(i : Nat){o : Oper}{fuel : Nat}{listed : Array Bool}{a : Act}{w : World}(c : Region.ready md ops listed = [i])(b : ops[i]? = some o)(h : ∀K' : Act -> World -> Prop, Shut (∀a w, S w -> (S w -> wpAnyH P md ops Q S fuel (listed.setIfInBounds i true) a w) -> K' a w) -> if Region.wanted o (yielded ops a.tmps) = true then Oper.wp P o a w K' Q else K' (a.put o.dst undef) w) : wpAnyH P md ops Q S (fuel + 1) listed a w := wpAnyH_ready c (by simp) (AllReadyH.cons b h AllReadyH.nil)
section
variable {H : Type} {enc : TypeId × Value → H} {P : Program} {w : World} {base : Nat} {spare : Nat → Bool} {held : Bool}
theorem xU{t:TypeId}{f0 f1 f2 f3 f4 f5:Field}{fuel:Nat}{cs:List Value}{x:DataW H×List MemPlace}(d:P.underlying t=some (.struct #[f0,f1,f2,f3,f4,f5]))(h:DataW.trod enc P w base spare held fuel t cs=some x) :
  ∃y0 y1 y2 y3 y4 y5 n,x=(.agg [y0.1,y1.1,y2.1,y3.1,y4.1,y5.1],y0.2++(y1.2++(y2.2++(y3.2++(y4.2++y5.2)))))/\cs.length=P.cellsOf t /\
   DataW.trod enc P w base spare held n f0.type ((cs.drop f0.offset).take (P.cellsOf f0.type))=some y0 /\
   DataW.trod enc P w base spare held n f1.type ((cs.drop f1.offset).take (P.cellsOf f1.type))=some y1 /\
   DataW.trod enc P w base spare held n f2.type ((cs.drop f2.offset).take (P.cellsOf f2.type))=some y2 /\
   DataW.trod enc P w base spare held n f3.type ((cs.drop f3.offset).take (P.cellsOf f3.type))=some y3 /\
   DataW.trod enc P w base spare held n f4.type ((cs.drop f4.offset).take (P.cellsOf f4.type))=some y4 /\
   DataW.trod enc P w base spare held n f5.type ((cs.drop f5.offset).take (P.cellsOf f5.type))=some y5:=by
 obtain⟨xs,n,_,rfl,c,b,a⟩:=DataW.trod_struct d h
 match xs,b with
 | [y0,y1,y2,y3,y4,y5],_=>exact⟨y0,y1,y2,y3,y4,y5,n,by simp,c,by simpa using a 0 f0 rfl,by simpa using a 1 f1 rfl,by simpa using a 2 f2 rfl,by simpa using a 3 f3 rfl,by simpa using a 4 f4 rfl,by simpa using a 5 f5 rfl⟩
theorem rS{t:TypeId}{f0 f1 f2 f3 f4 f5:Field}{n:Nat}{cs:List Value}{y0 y1 y2 y3 y4 y5:DataW H×List MemPlace}(g:P.underlying t=some (.struct #[f0,f1,f2,f3,f4,f5]))(f:cs.length=P.cellsOf t)
  (a:DataW.trod enc P w base spare held n f0.type ((cs.drop f0.offset).take (P.cellsOf f0.type))=some y0)
  (b:DataW.trod enc P w base spare held n f1.type ((cs.drop f1.offset).take (P.cellsOf f1.type))=some y1)
  (h2:DataW.trod enc P w base spare held n f2.type ((cs.drop f2.offset).take (P.cellsOf f2.type))=some y2)
  (c:DataW.trod enc P w base spare held n f3.type ((cs.drop f3.offset).take (P.cellsOf f3.type))=some y3)
  (d:DataW.trod enc P w base spare held n f4.type ((cs.drop f4.offset).take (P.cellsOf f4.type))=some y4)
  (e:DataW.trod enc P w base spare held n f5.type ((cs.drop f5.offset).take (P.cellsOf f5.type))=some y5) :
  DataW.trod enc P w base spare held (n+1) t cs=some (.agg [y0.1,y1.1,y2.1,y3.1,y4.1,y5.1],y0.2++(y1.2++(y2.2++(y3.2++(y4.2++y5.2))))):=by
 have:=trod_struct_mk (enc:=enc) (w:=w) (base:=base) (spare:=spare) (held:=held) (n:=n) (xs:=[y0,y1,y2,y3,y4,y5]) g f (by simp[a,b,h2,c,d,e]);simpa using this
end
theorem Dr{H:Type}{enc:TypeId×Value->H}{w:World}{base:Nat}{spare:Nat->Bool}{held:Bool}{fuel:Nat}{t:TypeId}{c0 c1 c2 c3 c4 a:Value}{x:DataW H×List MemPlace}
  (c:prog.underlying t=prog.underlying 29) (h:DataW.trod enc prog w base spare held fuel t [c0,c1,c2,c3,c4,a]=some x) :
  ∃a0 a1 a2 a3 a4 a5:Int,(c0 = .int .i64 a0/\c1 = .int .i64 a1/\c2 = .int .i64 a2/\c3 = .int .i64 a3/\c4 = .int .i64 a4/\a = .int .i64 a5) /\
   ((Lit.int .i64 a0).wf=true/\(Lit.int .i64 a1).wf=true/\(Lit.int .i64 a2).wf=true/\(Lit.int .i64 a3).wf=true/\(Lit.int .i64 a4).wf=true/\(Lit.int .i64 a5).wf=true) /\
   x=(.agg [.lit (.int .i64 a0),.lit (.int .i64 a1),.lit (.int .i64 a2),.lit (.int .i64 a3),.lit (.int .i64 a4),.lit (.int .i64 a5)],[]):=by
 have b:prog.cellsOf 3=1:=by kernel_rfl
 obtain⟨y0,y1,y2,y3,y4,y5,n,rfl,_,g0,g1,g2,g3,g4,g5⟩:=xU (c.trans underlying29) h;obtain⟨a0,e0,rfl,k0⟩:=a2h a1f g0;obtain⟨a1,e1,rfl,d⟩:=a2h a1f g1;obtain⟨a2,e2,rfl,e⟩:=a2h a1f g2;obtain⟨a3,e3,rfl,f⟩:=a2h a1f g3;obtain⟨a4,e4,rfl,g⟩:=a2h a1f g4;obtain⟨a5,e5,rfl,i⟩:=a2h a1f g5;simp[b]at e0 e1 e2 e3 e4 e5;exact⟨a0,a1,a2,a3,a4,a5,⟨e0,e1,e2,e3,e4,e5⟩,⟨k0,d,e,f,g,i⟩,by simp⟩
theorem KA{H:Type}{enc:TypeId×Value->H}{w:World}{base:Nat}{spare:Nat->Bool}{held:Bool}(n:Nat){t:TypeId}{a0 a1 a2 a3 a4 a5:Int}
  (d:prog.underlying t=prog.underlying 29) (c:prog.cellsOf t=6)
  (k:(Lit.int .i64 a0).wf=true/\(Lit.int .i64 a1).wf=true/\(Lit.int .i64 a2).wf=true/\(Lit.int .i64 a3).wf=true/\(Lit.int .i64 a4).wf=true/\(Lit.int .i64 a5).wf=true) :
  DataW.trod enc prog w base spare held (n+2) t [.int .i64 a0,.int .i64 a1,.int .i64 a2,.int .i64 a3,.int .i64 a4,.int .i64 a5]=some (.agg [.lit (.int .i64 a0),.lit (.int .i64 a1),.lit (.int .i64 a2),.lit (.int .i64 a3),.lit (.int .i64 a4),.lit (.int .i64 a5)],[]):=by
 have b:prog.cellsOf 3=1:=by kernel_rfl
 obtain⟨k0,e,g,h,i,j⟩:=k;have f:=fun(a:Int) (ka:(Lit.int .i64 a).wf=true)=>trod_int_mk (enc:=enc) (w:=w) (base:=base) (spare:=spare) (held:=held) n a1f ka;have:=rS (enc:=enc) (w:=w) (base:=base) (spare:=spare) (held:=held) (n:=n+1) (cs:=[.int .i64 a0,.int .i64 a1,.int .i64 a2,.int .i64 a3,.int .i64 a4,.int .i64 a5]) (d.trans underlying29) (by simp[c]) (by simpa[b]using f a0 k0) (by simpa[b]using f a1 e) (by simpa[b]using f a2 g) (by simpa[b]using f a3 h) (by simpa[b]using f a4 i) (by simpa[b]using f a5 j);simpa using this
end Go.Proofs.YtchidddpplangaaGreatDoor
namespace Go.Proofs.YtchidddpplangaaGreatDoor
open Go.Proofs.Tryz
open Go.RowKit
variable {a b:ByteArray}
theorem ie{P:Program}{md:Region.Mode}{ops:Array Oper}{Q:Exit->Act->World->Prop}{S S':World->Prop}(c:∀w,S' w->S w):∀(fuel:Nat) (listed:Array Bool) (a:Act) (w:World),wpAnyH P md ops Q S' fuel listed a w->wpAnyH P md ops Q S fuel listed a w
 | 0,_,_,_,h=>h
 | fuel+1,_,_,_,h=>⟨h.1,fun i d=>wpOp_mono (fun a' w' b=>⟨c _ b.1,ie c fuel _ a' w' b.2⟩) (h.2 i d)⟩
def fw(a b:List UInt8):Bool:=(a++[47]).isPrefixOf b
theorem GX(h:b.size<=a.size):fw a.data.toList b.data.toList=false:=by
 cases e:fw a.data.toList b.data.toList
 . rfl
 .
  have:=(List.isPrefixOf_iff_prefix.1 e).length_le;have e1:a.data.toList.length=a.size:=by simp
  have e2:b.data.toList.length=b.size:=by simp
  rw[a0k]at this;simp only[a0E,a0S]at this;omega
theorem GW(k:¬ (b.data.toList.take a.size)=a.data.toList):fw a.data.toList b.data.toList=false:=by
 cases e:fw a.data.toList b.data.toList
 . rfl
 .
  exfalso;apply k;obtain⟨t,c⟩:=List.isPrefixOf_iff_prefix.1 e;rw[←c];have e1:a.data.toList.length=a.size:=by simp
  rw[a0L,←e1,List.take_left'];rfl
theorem KV(h:a.size<b.size)(k:(b.data.toList.take a.size)=a.data.toList):fw a.data.toList b.data.toList=(b[a.size] == 47):=by
 have e2:b.data.toList.length=b.size:=by simp
 have d:a.size<b.data.toList.length:=by omega
 have e3:b.data.toList=a.data.toList++(b[a.size] :: b.data.toList.drop (a.size+1)):=by
  have:=a1H a.size b.data.toList;rw[k,a2V d]at this;exact this.symm
 unfold fw;rw[e3];cases hb:(b[a.size] == 47)
 .
  cases e:(a.data.toList++[47]).isPrefixOf (a.data.toList++(b[a.size] :: b.data.toList.drop (a.size+1)))
  . rfl
  . have:=List.isPrefixOf_iff_prefix.1 e;rw[List.prefix_append_right_inj]at this;obtain⟨t,c⟩:=this;simp only[a17,a1u,List.cons.injEq]at c;rw[←c.1]at hb;simp at hb
 . rw[List.isPrefixOf_iff_prefix,List.prefix_append_right_inj];rw[a3N.1 hb];exact⟨_,rfl⟩
theorem Ea(b:ByteArray)(k:Nat):(b.extract 0 k).toList=b.data.toList.take k:=by
 rw[a1I,Lib.extract_data];simp
theorem Iy(x:UInt8):((x.toNat:Int) == 47)=(x == 47):=by
 cases e:(x == 47)
 .
  have:¬ x.toNat=47:=fun h=>by rw[UInt8.toNat_inj.1 (show x.toNat=(47:UInt8).toNat from h)]at e;cases e
  simp;omega
 . rw[a3N.1 e];rfl
theorem lX(a b:ByteArray)(w:World)(g:(a.size:Int)<=1048576)(_:(b.size:Int)<=1048576) :
  Calls prog 40 #[.string a,.string b] w fun e w'=>e = .returned (.bool (fw a.data.toList b.data.toList))/\w'=w:=by
 by_cases h:a.size<b.size
 .
  have d:(a.size:Int)<(b.size:Int):=by omega
  by_cases k:(b.data.toList.take a.size)=a.data.toList
  .
   have c:=ae (KV h k);have f:(b.extract 0 a.size).toList=a.toList:=by rw[Ea,k,a1I]
   go_enter func40,ntmps40;go_wp2;go_ret;exact⟨ak ((Iy _).trans (ab c).symm),rfl⟩
  . have c:=ae (GW k);have f:¬ (b.extract 0 a.size).toList=a.toList:=fun e=>k (by rw[←Ea,e,a1I]);go_enter func40,ntmps40;go_wp2;go_ret;exact⟨ak (ab c).symm,rfl⟩
 .
  have c:=ae (GX (a:=a) (b:=b) (by omega));have d:¬ (a.size:Int)<(b.size:Int):=by omega
  go_enter func40,ntmps40;go_wp2;go_ret;exact⟨ak (ab c).symm,rfl⟩
end Go.Proofs.YtchidddpplangaaGreatDoor
