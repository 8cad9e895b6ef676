/- The model writes a symbol: (*l1Out).sym. -/
import Derived.Test.YtbacpebljannfaaGreatDoorM18
import Derived.Test.YtbacpebljannfaaGreatDoorM10
import Derived.Test.YtbacpebljannfaaGreatDoorM12
import Derived.Test.YtbacpebljannfaaGreatDoorM21
set_option linter.unusedSimpArgs false
set_option maxHeartbeats 1600000
namespace Go.Proofs.YtbacpebljannfaaGreatDoor
open Go.RowKit Corb
def gq(w:World)(b:Nat)(a:Option Addr)(l:List Int):Prop:=aZ w a l/\(0<l.length->∀x,a=some x->x.block≠b/\∀cur fr,w.heap[x.block]?≠some (.cells cur 5 fr))
theorem gq.keep{w w':World}{b:Nat}{a:Option Addr}{l:List Int}(h:gq w b a l)(hk:bS b w w'):gq w' b a l:=by
 by_cases h0:0<l.length
 ·
  obtain⟨g,o,e,hg,hc⟩:=h.1 h0;obtain⟨h1,h2⟩:=h.2 h0 _ e;have hb:=hk.2 g hg h1 h2;refine⟨fun _=>⟨g,o,e,a0f hg hk.1,fun i hi=>?_⟩,fun _ x ex=>?_⟩
  · rw[←hc i hi];exact World.cell?_of_block (w:=w) hb
  ·
   have:x=⟨g,o,none⟩:=by rw[ex]at e;exact a1J e
   subst this;exact⟨h1,fun cur fr=>by rw[hb];exact h2 cur fr⟩
 · exact⟨fun h=>absurd h h0,fun h=>absurd h h0⟩
theorem gq.below{w w':World}{b:Nat}{a:Option Addr}{l:List Int}(h:gq w b a l)(hb:Below w.heap.size w w'):gq w' b a l:=h.keep ⟨hb.size,fun k hk _ _=>hb.block k hk⟩
theorem Eu{w:World}{b base n cap:Nat}{a:Option Addr}{l:List Int}(hn:l.length=n)(h:w.ownsRow base 3 1 (.slice a n cap) n (l.map (Value.int .i64)))(hb:b<base):gq w b a l:=by
 refine⟨wF hn h,fun h0 x ex=>?_⟩;subst ex;rcases h.2 with⟨e,_⟩|⟨g,cap',cur,e,hbg,hg,_⟩
 · cases e
 · simp only[a0O,a0n]at e;obtain⟨rfl,_⟩:=e;refine⟨by show g≠b;omega,fun cur' fr=>?_⟩;show w.heap[g]?≠_;rw[hg];intro e;cases e
theorem ep{w:World}{b base n cap:Nat}{a:Option Addr}{l:List Int}(hn:l.length=n)(h:ak w base (.slice a n cap) l)(hb:b<base):gq w b a l:=Eu hn (h.own hn) hb
def bg(p:Nat×Nat)(l:List (Int×Int)):Nat×Nat:=gx p (mM l)
theorem bn(p:Nat×Nat)(l m:List (Int×Int)):bg p (l++m)=bg (bg p l) m:=by
 unfold bg mM;rw[a0J,lf]
def pcM(l:List Int)(k:Nat):Int×Int:=((rv (l.getD k 0).toNat ((aI l 15).2.getD k 0).toNat:Nat),l.getD k 0)
theorem Out.kept{w w':World}{b V m:Nat}(h:Out w b V m)(hb:Below w.heap.size w w'):Out w' b V m:=by
 obtain⟨hV,v,ht,hy⟩:=h;refine⟨hV,v,Three.kept ht (hb.mono ht.2.2.2.2.2.2),?_⟩;exact a1P hy (row:=none) ⟨hb.os,hb.tape,hb.output,hb.size,fun k hk _=>hb.block k hk⟩ (by
  cases hv:v.ownBlock with
  | none=>exact .inl rfl
  | some k=>exact .inr (by simp))
theorem Out.lt{w:World}{b V m:Nat}(h:Out w b V m):b<w.heap.size:=by
 obtain⟨_,_,ht,_⟩:=h;exact ht.2.2.2.2.2.2
def iy(w:World)(b:Nat)(p:Nat×Nat):Prop:=Out w b p.1 p.2
theorem d9(b:Nat)(p:Nat×Nat)(num bits:Int)(w:World)(h:iy w b p)(hok:pOk num bits=true)(hm:p.2<=100000) :
  Calls Tryz.prog 125 #[.pointer (some ⟨b,0,none⟩),.int .i64 num,.int .i64 bits] w fun e w'=>e = .returned (.tuple #[])/\iy w' b (bg p [(num,bits)])/\KB b w w':=by
 obtain⟨⟨b0,b1⟩,n0,n1⟩:=aV.1 hok;have hlt:num.toNat<p2 bits.toNat:=by
  have:(num.toNat:Int)<((p2 bits.toNat:Nat):Int):=by rw[Int.toNat_of_nonneg n0];exact n1
  omega
 have h16:p2 bits.toNat<=p2 16:=a0S (by omega) (by omega);have e16:p2 16=65536:=by decide
 refine(EF b p.1 p.2 num bits w h n0 (by omega) b0 b1 hm).mono ?_;rintro e w' ⟨rfl,ho,hk⟩;refine⟨rfl,?_,hk⟩;rw[a1e hlt]at ho;exact ho
theorem mO{l:List Int}{k:Nat}(h:0<=l.getD k 0/\l.getD k 0<=15):pOk (pcM l k).1 (pcM l k).2=true:=by
 refine aV.2 ⟨⟨h.1,by show l.getD k 0<=16;omega⟩,by show(0:Int)<=((_:Nat):Int);omega,?_⟩;show((rv (l.getD k 0).toNat ((aI l 15).2.getD k 0).toNat:Nat):Int)<((p2 (l.getD k 0).toNat:Nat):Int);have:=EM (l.getD k 0).toNat ((aI l 15).2.getD k 0).toNat
 unfold p2;omega
theorem nS(b:Nat)(p:Nat×Nat)(a ac:Option Addr)(cap n cc k:Nat)(l:List Int)(w:World)(ho:iy w b p)(hn:l.length=n)(h:aZ w a l)(hcr:aZ w ac (aI l 15).2)(hk:k<n)(hm:n<=300)(hy:0<=l.getD k 0/\l.getD k 0<=15)(hz:0<=(aI l 15).2.getD k 0/\(aI l 15).2.getD k 0<65536)(hp:p.2<=100000) :
  Calls Tryz.prog 165 #[.pointer (some ⟨b,0,none⟩),.slice a n cap,.slice ac n cc,.int .i64 (k:Int)] w fun e w'=>e = .returned (.tuple #[])/\iy w' b (bg p [pcM l k])/\KB b w w':=by
 have HP:=af (Lit.l3Piece_any a ac cap n cc k l (aI l 15).2 w hn ((bu l 15).trans hn) h hcr hk hm hy hz);have hok:=af (mO hy);have HPc:Hid (pcM l k=(((rv (l.getD k 0).toNat ((aI l 15).2.getD k 0).toNat:Nat):Int),l.getD k 0)):=rfl;rw[ae HPc]at hok;generalize pcM l k=PC at *
 generalize rv (l.getD k 0).toNat ((aI l 15).2.getD k 0).toNat=R at *
 generalize l.getD k 0=Y at *
 have HO:=af ho;clear ho h hcr hy hz hn;go_enter Tryz.func165,Tryz.ntmps165;go_wp2_with fail;refine(ae HP).mono ?_;rintro e x1 ⟨rfl,hb1⟩;have hb2:Below w.heap.size w (x1.alloc (.cells #[.int .i64 (R:Nat),.int .i64 Y] 114)):=hb1.alloc hb1.size _;have HO2:=af (Out.kept (ae HO) hb2);have HK2:=af ((KB.refl b w).below hb2 (a0k (Out.lt (ae HO))));clear hb1 hb2 HP;go_wp2_with fail;refine(d9 b p (R:Nat) Y _ (ae HO2) (ae hok) hp).mono ?_;rintro e x2 ⟨rfl,h2,hk2⟩;have HX:=af (a0b h2 ((ae HK2).trans hk2));clear h2 hk2;go_wp2
 go_end0
 exact⟨rfl,by rw[ae HPc];exact(ae HX).1,(ae HX).2⟩
end Go.Proofs.YtbacpebljannfaaGreatDoor
