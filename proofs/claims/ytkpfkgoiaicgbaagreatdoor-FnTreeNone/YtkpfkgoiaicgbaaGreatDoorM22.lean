/- Of what the proof is made: 5 texts, one behind the other. -/
import Derived.Test.YtkpfkgoiaicgbaaGreatDoorM21
import Derived.Test.YtkpfkgoiaicgbaaGreatDoorM20
import Derived.Test.YtkpfkgoiaicgbaaGreatDoorM9
import Derived.Test.YtkpfkgoiaicgbaaGreatDoorM18
import Derived.WalkLawsBesides
import Derived.Test.YtkpfkgoiaicgbaaGreatDoorM5
set_option linter.unusedSimpArgs false
set_option linter.unusedVariables false
set_option maxHeartbeats 1600000
namespace Go.Proofs.YtkpfkgoiaicgbaaGreatDoor
open Go.RowKit Corb
def iJ:Ending:=.panicked [{ v:=.iface 308 (.agg #[]),recovered:=false }]
theorem cj(w:World):Calls Tryz.prog 209 #[.bool true] w fun e w'=>e = .returned (.tuple #[])/\w'=w:=by
 go_enter Tryz.func209,Tryz.ntmps209;go_wp2
 go_end0
 exact⟨rfl,rfl⟩
theorem dP(w:World):Calls Tryz.prog 209 #[.bool false] w fun e w'=>e=iJ/\w'=w:=by
 go_enter Tryz.func209,Tryz.ntmps209;go_wp2;exact⟨rfl,rfl,rfl⟩
def gP(w:World)(b:Nat)(s:ByteArray)(d:Option (Nat×Nat))(e:Ending)(w':World):Prop:=
 ax b w w'/\match d with
  | none=>e=iJ
  | some (x,q)=>e = .returned (.int .i64 (x:Nat))/\Rdr w' b s q
theorem bv(b p k:Nat)(s:ByteArray)(w:World)(h:Rdr w b s p)(hs:s.size<=2000000)(hk:k<=16) :
  Calls Tryz.prog 208 #[.pointer (some ⟨b,0,none⟩),.int .i64 (k:Int)] w (gP w b s (rdN (au s) (8*s.size) p k)):=by
 have HP:=af (rS b p k 0 s w h hs hk);unfold gP;by_cases hc:p+k<=8*s.size
 · rw[lB hc];have hd:decide (8*s.size<p+k)=false:=decide_eq_false (by omega);have Hd:=af hd;clear h hs hk hc hd;go_enter Tryz.func208,Tryz.ntmps208;go_wp2_with fail;refine(ae HP).mono ?_;rintro e x1 ⟨rfl,r1,k1⟩;have r2:=r1;unfold Rdr at r2;rw[ae Hd]at r2;obtain⟨q0,q1,q2,_⟩:=r2;have HK:=af (And.intro r1 k1);clear r1 k1 HP q0 q1;go_wp2_with fail;refine(cj _).mono ?_;rintro e x2 ⟨rfl,hx2⟩;rw[hx2];clear hx2 x2;go_wp2;go_ret;exact⟨(ae HK).2,rfl,(ae HK).1⟩
 · rw[oI hc];have hd:decide (8*s.size<p+k)=true:=decide_eq_true (by omega);have Hd:=af hd;clear h hs hk hc hd;go_enter Tryz.func208,Tryz.ntmps208;go_wp2_with fail;refine(ae HP).mono ?_;rintro e x1 ⟨rfl,r1,k1⟩;have r2:=r1;unfold Rdr at r2;rw[ae Hd]at r2;obtain⟨q0,q1,q2,_⟩:=r2;have HK:=af k1;clear r1 k1 HP q0 q1;go_wp2_with fail;refine(dP _).mono ?_;rintro e x2 ⟨rfl,hx2⟩;rw[hx2];clear hx2 x2;exact⟨rfl,ae HK,rfl⟩
theorem ax.later{b:Nat}{w w1 w2:World}(h:ax b w w1)(hb:Below w1.heap.size w1 w2)(hbw:b<w1.heap.size):ax b w w2:=
 ⟨h.1.trans (hb.mono (Nat.le_of_lt hbw)),fun j hj hne=>(hb.block j (Nat.lt_of_lt_of_le hj h.1.size)).trans (h.2 j hj hne),fun j hj=>⟨(hb.cell (p:=⟨b,j,none⟩) hbw).trans (h.3 j hj).1,(hb.frozen (p:=⟨b,j,none⟩) hbw).trans (h.3 j hj).2⟩⟩
def iZ(V p:Nat):Option Nat:=if V/2 ^ p%2 ^ ((8-p%8)%8)=0 then some (p+(8-p%8)%8)else none
theorem lY(b p:Nat)(s:ByteArray)(w:World)(h:Rdr w b s p)(hs:s.size<=2000000)(hp:p<=8*s.size) :
  Calls Tryz.prog 210 #[.pointer (some ⟨b,0,none⟩)] w fun e w'=>ax b w w'/\match iZ (au s) p with
   | none=>e=iJ
   | some q=>e = .returned (.tuple #[])/\Rdr w' b s q:=by
 have HP:=af (pt b p s w h hs hp);unfold iZ;by_cases hc:au s/2 ^ p%2 ^ ((8-p%8)%8)=0
 ·
  rw[if_pos hc];rw[decide_eq_true hc]at HP;clear h hs hp hc;go_enter Tryz.func210,Tryz.ntmps210;go_wp2_with fail;refine(ae HP).mono ?_;rintro e x1 ⟨rfl,r1,k1⟩;have HK:=af (And.intro r1 k1);clear r1 k1 HP;go_wp2_with fail;refine(cj _).mono ?_;rintro e x2 ⟨rfl,hx2⟩;rw[hx2];clear hx2 x2;go_wp2
  go_end0
  exact⟨(ae HK).2,rfl,(ae HK).1⟩
 · rw[if_neg hc];rw[decide_eq_false hc]at HP;clear h hs hp hc;go_enter Tryz.func210,Tryz.ntmps210;go_wp2_with fail;refine(ae HP).mono ?_;rintro e x1 ⟨rfl,r1,k1⟩;have HK:=af k1;clear r1 k1 HP;go_wp2_with fail;refine(dP _).mono ?_;rintro e x2 ⟨rfl,hx2⟩;rw[hx2];clear hx2 x2;exact⟨rfl,ae HK,rfl⟩
set_option maxRecDepth 100000 in
theorem rX(L G M b p k:Nat)(s:ByteArray)(w:World)(h:Rdr w b s p)(hs:s.size<=2000000)(hL:L<=3)(hG:1<=G)(hG4:G<=4)(hM:M<=30)(hMG:∀k,k<M->k/G<=15)(hk:k<=1000) :
  Calls Tryz.prog 225 #[.pointer (some ⟨b,0,none⟩),.agg #[.int .i64 (L:Nat),.int .i64 (G:Nat),.int .i64 (M:Nat)],.int .i64 (k:Nat)] w (gP w b s (scG (au s) (8*s.size) L G M k p)):=by
 have hbl:=h.lt;have hA:ax b w (w.alloc (.cells #[.int .i64 (L:Nat),.int .i64 (G:Nat),.int .i64 (M:Nat)] 294)):=(ax.refl b w).alloc hbl _;have hbA:(w.alloc (.cells #[.int .i64 (L:Nat),.int .i64 (G:Nat),.int .i64 (M:Nat)] 294)).heap[w.heap.size]?=some (Obj.cells #[.int .i64 (L:Nat),.int .i64 (G:Nat),.int .i64 (M:Nat)] 294):=alloc_at _ _;have hrA:=h.alloc (.cells #[.int .i64 (L:Nat),.int .i64 (G:Nat),.int .i64 (M:Nat)] 294);have HS:=af hs;unfold gP scG;by_cases hc:k<M
 ·
  rw[if_pos hc];have hcI':(k:Int)<(M:Int):=by omega
  have hbd:=vt hL hG hG4 (hMG k hc);have HSt:=af (fun W=>yl L G M k W hL hG hG4 (hMG k hc) (by omega));obtain⟨c0,c1,c2,_⟩:=wQ hbA;have HX:=af (And.intro hA hrA);clear h hs hL hG hG4 hM hMG hk hc hA hrA hbA;generalize hE:stF L G k=E at *
  clear hE;obtain⟨E1,E2⟩:=E;simp only at hbd HSt ⊢;rcases hN:rdN (au s) (8*s.size) p E2 with _|⟨x,q⟩
  · simp only[Option.bind_none];have HNe:=af hN;clear hN;go_enter Tryz.func225,Tryz.ntmps225;go_wp2_with fail;refine(cj _).mono ?_;rintro e x2 ⟨rfl,hx2⟩;rw[hx2];clear hx2 x2;go_wp2_with fail;refine(ae HSt _).mono ?_;rintro e x2 ⟨rfl,b2⟩;have hk2:=(ae HX).1.later b2 (ae HX).2.lt;have hr2:=(ae HX).2.kept (b2.mono (ae HX).2.lt);have HN:=af (bv b p E2 s x2 hr2 (ae HS) (by omega));unfold gP at HN;rw[ae HNe]at HN;have HK:=af hk2;clear b2 hk2 hr2 HX HSt c0 c1 c2 HNe;go_wp2_with fail;refine(ae HN).mono ?_;rintro e x3 ⟨k3,rfl⟩;exact⟨rfl,(ae HK).trans k3,rfl⟩
  ·
   simp only[Option.bind_some];have HNe:=af hN;have hxb:=(br hN).2.2.2;have hxI:(x:Int)<65536:=by
    have h1:2 ^ E2<=2 ^ 16:=Nat.pow_le_pow_right (by omega) (by omega);omega
   clear hN hxb;go_enter Tryz.func225,Tryz.ntmps225;go_wp2_with fail;refine(cj _).mono ?_;rintro e x2 ⟨rfl,hx2⟩;rw[hx2];clear hx2 x2;go_wp2_with fail;refine(ae HSt _).mono ?_;rintro e x2 ⟨rfl,b2⟩;have hk2:=(ae HX).1.later b2 (ae HX).2.lt;have hr2:=(ae HX).2.kept (b2.mono (ae HX).2.lt);have HN:=af (bv b p E2 s x2 hr2 (ae HS) (by omega));unfold gP at HN;rw[ae HNe]at HN;have HK:=af hk2;clear b2 hk2 hr2 HX HSt c0 c1 c2 HNe;go_wp2_with fail;refine(ae HN).mono ?_;rintro e x3 ⟨k3,rfl,r3⟩;have HY:=af (And.intro ((ae HK).trans k3) r3);clear k3 r3 HN HK;go_wp2;go_ret;exact⟨(ae HY).1,aR (by simp),(ae HY).2⟩
 ·
  rw[if_neg hc];have hcI':¬ (k:Int)<(M:Int):=by omega
  have HK:=af hA;clear h hs hL hG hG4 hM hMG hk hc hA hrA hbA;go_enter Tryz.func225,Tryz.ntmps225;go_wp2_with fail;refine(dP _).mono ?_;rintro e x2 ⟨rfl,hx2⟩;rw[hx2];clear hx2 x2;exact⟨rfl,ae HK,rfl⟩
theorem Jr(n:Nat)(h:n<=65535):n ^^^ 65535=65535-n:=by
 apply Nat.eq_of_testBit_eq;intro i;have e1:(65535:Nat)=2 ^ 16-1:=rfl;have e2:65535-n=2 ^ 16-(n+1):=by omega
 rw[e2,Nat.testBit_two_pow_sub_succ (by omega),Nat.testBit_xor,e1,Nat.testBit_two_pow_sub_one];by_cases hi:i<16
 · simp[hi]
 · have:n.testBit i=false:=Nat.testBit_lt_two_pow (Nat.lt_of_lt_of_le (by omega) (Nat.pow_le_pow_right (by omega) (Nat.le_of_not_lt hi)));simp[hi,this]
def gR(V sz:Nat):Nat->Nat->List UInt8->Option (List UInt8×Nat)
 | 0,p,T=>some (T,p)
 | n+1,p,T=>(rdN V sz p 8).bind fun x=>(dE T ((x.1:Nat),0,0)).bind fun T'=>gR V sz n x.2 T'
def ic(V sz p:Nat)(T:List UInt8):Option (List UInt8×Nat):=
 (iZ V p).bind fun q=>(rdN V sz q 16).bind fun a=>(rdN V sz a.2 16).bind fun c=>if c.1=65535-a.1 then gR V sz a.1 c.2 T else none
theorem Cu{V sz:Nat} : ∀(n p:Nat) (T T':List UInt8) (q:Nat),gR V sz n p T=some (T',q)->p<=sz->q<=sz/\p<=q/\(T.length<=300->T'.length<=300):=by
 intro n;induction n with
 | zero=>
  intro p T T' q h hp;simp only[gR,Option.some.injEq,Prod.mk.injEq]at h;obtain⟨rfl,rfl⟩:=h;exact⟨hp,Nat.le_refl _,id⟩
 | succ n ih=>
  intro p T T' q h hp;simp only[gR]at h;rcases h1:rdN V sz p 8 with _|⟨x,r⟩
  · rw[h1]at h;cases h
  ·
   rw[h1]at h;simp only[Option.bind_some]at h;have b1:=br h1;rcases h2:dE T ((x:Nat),0,0)with _|T2
   · rw[h2]at h;cases h
   · rw[h2]at h;simp only[Option.bind_some]at h;obtain⟨a1,a2,a3⟩:=ih r T2 T' q h b1.1;exact⟨a1,by omega,fun _=>a3 (mO h2)⟩
theorem xX{V p q:Nat}(h:iZ V p=some q):p<=q/\q=p+(8-p%8)%8:=by
 unfold iZ at h
 split at h
 · simp only[Option.some.injEq]at h;omega
 · cases h
theorem tV{V sz p q:Nat}{T T':List UInt8}(h:ic V sz p T=some (T',q)):q<=sz/\p<=q/\(T.length<=300->T'.length<=300):=by
 unfold ic at h;rcases h1:iZ V p with _|r
 · rw[h1]at h;cases h
 rw[h1]at h;simp only[Option.bind_some]at h;rcases h2:rdN V sz r 16 with _|⟨a,r2⟩
 · rw[h2]at h;cases h
 rw[h2]at h;simp only[Option.bind_some]at h;rcases h3:rdN V sz r2 16 with _|⟨c,r3⟩
 · rw[h3]at h;cases h
 rw[h3]at h;simp only[Option.bind_some]at h
 split at h
 · have b1:=xX h1;have b2:=br h2;have b3:=br h3;obtain⟨a1,a2,a3⟩:=Cu _ _ _ _ _ h b3.1;exact⟨a1,by omega,a3⟩
 · cases h
def lbG(V sz:Nat):List Nat->Nat->List Int->Option (List Int×Nat)
 | [],p,l=>some (l,p)
 | i :: is,p,l=>(rdN V sz p 3).bind fun x=>lbG V sz is x.2 (l.set i ((x.1:Nat):Int))
def iN(V sz many p:Nat):Option (List Int×Nat):=(lbG V sz (bw.take many) p (List.replicate 19 0)).bind fun x=>if ap x.1=true then some x else none
theorem LV{V sz:Nat} : ∀(is:List Nat) (p:Nat) (l l':List Int) (q:Nat),lbG V sz is p l=some (l',q)->p<=sz->q<=sz/\p<=q/\l'.length=l.length:=by
 intro is;induction is with
 | nil=>
  intro p l l' q h hp;simp only[lbG,Option.some.injEq,Prod.mk.injEq]at h;obtain⟨rfl,rfl⟩:=h;exact⟨hp,Nat.le_refl _,rfl⟩
 | cons i is ih=>
  intro p l l' q h hp;simp only[lbG]at h;rcases h1:rdN V sz p 3 with _|⟨x,r⟩
  · rw[h1]at h;cases h
  · rw[h1]at h;simp only[Option.bind_some]at h;have b1:=br h1;obtain⟨a1,a2,a3⟩:=ih _ _ _ _ h b1.1;exact⟨a1,by omega,by rw[a3,List.length_set]⟩
theorem tF{V sz many p q:Nat}{l:List Int}(h:iN V sz many p=some (l,q))(hp:p<=sz):q<=sz/\p<=q/\ap l=true/\l.length=19:=by
 unfold iN at h;rcases h1:lbG V sz (bw.take many) p (List.replicate 19 0)with _|⟨l1,q1⟩
 · rw[h1]at h;cases h
 ·
  rw[h1]at h;simp only[Option.bind_some]at h
  split at h
  · simp only[Option.some.injEq,Prod.mk.injEq]at h;obtain⟨rfl,rfl⟩:=h;obtain⟨a1,a2,a3⟩:=LV _ _ _ _ _ h1 hp;exact⟨a1,a2,by assumption,by rw[a3];simp⟩
  · cases h
def fT(V sz:Nat)(A:List Int)(k:Int)(q:Nat):Option (List Int×Nat):=
 if k=16 then(if A.length=0 then none else(rdN V sz q 2).bind fun x=>some (A++List.replicate (3+x.1) (A.getD (A.length-1) 0),x.2))
 else if k=17 then(rdN V sz q 3).bind fun x=>some (A++List.replicate (3+x.1) 0,x.2)
 else if k=18 then(rdN V sz q 7).bind fun x=>some (A++List.replicate (11+x.1) 0,x.2)
 else some (A++[k],q)
def lnF(V sz:Nat)(B:List Int)(n:Nat):Nat->Nat->List Int->Option (List Int×Nat)
 | 0,_,_=>none
 | f+1,p,A=>if A.length<n then(dec B V sz p).bind fun k=>(fT V sz A k.1 k.2).bind fun x=>lnF V sz B n f x.2 x.1
  else if A.length=n then some (A,p)else none
def lnG(V sz:Nat)(B:List Int)(n p:Nat)(A:List Int):Option (List Int×Nat):=lnF V sz B n (sz+1-p) p A
theorem qn{V sz:Nat}{A A':List Int}{k:Int}{q r:Nat}(h:fT V sz A k q=some (A',r))(hq:q<=sz):r<=sz/\q<=r/\A.length<A'.length/\A'.length<=A.length+138:=by
 unfold fT at h;have key:∀(bt c:Nat) (v:Int),bt<=7->c<=11->3<=c->(rdN V sz q bt).bind (fun x=>some (A++List.replicate (c+x.1) v,x.2))=some (A',r)->r<=sz/\q<=r/\A.length<A'.length/\A'.length<=A.length+138:=by
  intro bt c v hbt hc hc3 h;rcases h1:rdN V sz q bt with _|⟨x,t⟩
  · rw[h1]at h;cases h
  · rw[h1]at h;simp only[Option.bind_some,Option.some.injEq,Prod.mk.injEq]at h;obtain⟨rfl,rfl⟩:=h;have b1:=br h1;have b2:2 ^ bt<=2 ^ 7:=Nat.pow_le_pow_right (by omega) hbt;refine⟨b1.1,by omega,?_,?_⟩<;>simp only[List.length_append,List.length_replicate]<;>omega
 split at h
 ·
  split at h
  · cases h
  · exact key 2 3 _ (by omega) (by omega) (by omega) h
 ·
  split at h
  · exact key 3 3 _ (by omega) (by omega) (by omega) h
  ·
   split at h
   · exact key 7 11 _ (by omega) (by omega) (by omega) h
   · simp only[Option.some.injEq,Prod.mk.injEq]at h;obtain⟨rfl,rfl⟩:=h;exact⟨hq,Nat.le_refl _,by simp,by simp⟩
theorem GJ{V sz:Nat}{B:List Int}{n:Nat} : ∀(m f p:Nat) (A:List Int),sz+1-p<=m->sz+1-p<=f->p<=sz->lnF V sz B n f p A=lnF V sz B n (sz+1-p) p A:=by
 intro m;induction m with
 | zero=>intro f p A h1 h2 h3;omega
 | succ m ih=>
  intro f p A h1 h2 h3;obtain⟨f',rfl⟩:∃g,f=g+1:=⟨f-1,by omega⟩;obtain⟨m',hm⟩:∃g,sz+1-p=g+1:=⟨sz-p,by omega⟩;rw[hm];simp only[lnF]
  split
  ·
   rcases hd:dec B V sz p with _|⟨i,q⟩
   · rfl
   ·
    have hb:=fy hd;simp only[Option.bind_some];rcases ha:fT V sz A i q with _|⟨A',r⟩
    · rfl
    · have hr:=qn ha hb.1;simp only[Option.bind_some];rw[ih f' r A' (by omega) (by omega) hr.1,ih m' r A' (by omega) (by omega) hr.1]
  · rfl
theorem xj{V sz:Nat}{B:List Int}{n p:Nat}{A:List Int}(hp:p<=sz)(h:A.length<n):lnG V sz B n p A=(dec B V sz p).bind fun k=>(fT V sz A k.1 k.2).bind fun x=>lnG V sz B n x.2 x.1:=by
 unfold lnG;obtain⟨m,hm⟩:∃g,sz+1-p=g+1:=⟨sz-p,by omega⟩;rw[hm];simp only[lnF,if_pos h];rcases hd:dec B V sz p with _|⟨i,q⟩
 · rfl
 ·
  have hb:=fy hd;simp only[Option.bind_some];rcases ha:fT V sz A i q with _|⟨A',r⟩
  · rfl
  · have hr:=qn ha hb.1;simp only[Option.bind_some];exact GJ m m r A' (by omega) (by omega) hr.1
theorem xl{V sz:Nat}{B:List Int}{n p:Nat}{A:List Int}(hp:p<=sz)(h:¬ A.length<n):lnG V sz B n p A=if A.length=n then some (A,p)else none:=by
 unfold lnG;obtain⟨m,hm⟩:∃g,sz+1-p=g+1:=⟨sz-p,by omega⟩;rw[hm];simp only[lnF,if_neg h]
theorem LY{V sz:Nat}{B:List Int}{n:Nat} : ∀(f p:Nat) (A A':List Int) (q:Nat),lnF V sz B n f p A=some (A',q)->p<=sz->q<=sz/\p<=q/\A'.length=n:=by
 intro f;induction f with
 | zero=>intro p A A' q h;simp[lnF]at h
 | succ f ih=>
  intro p A A' q h hp;simp only[lnF]at h
  split at h
  ·
   rcases hd:dec B V sz p with _|⟨i,r⟩
   · rw[hd]at h;cases h
   ·
    rw[hd]at h;have hb:=fy hd;simp only[Option.bind_some]at h;rcases ha:fT V sz A i r with _|⟨A2,r2⟩
    · rw[ha]at h;cases h
    · rw[ha]at h;have hr:=qn ha hb.1;simp only[Option.bind_some]at h;obtain⟨h1,h2,h3⟩:=ih _ _ _ _ h hr.1;exact⟨h1,by omega,h3⟩
  ·
   split at h
   · simp only[Option.some.injEq,Prod.mk.injEq]at h;obtain⟨rfl,rfl⟩:=h;exact⟨hp,Nat.le_refl _,by assumption⟩
   · cases h
theorem GK{V sz:Nat}{B:List Int}{n p q:Nat}{A A':List Int}(h:lnG V sz B n p A=some (A',q))(hp:p<=sz):q<=sz/\p<=q/\A'.length=n:=LY _ _ _ _ _ h hp
def qt(V sz n:Nat)(A:List Int)(p:Nat)(T:List UInt8):Option (List UInt8×Nat):=
 if ap (A.take n)=true then(if ap (A.drop n)=true then jA V sz (A.take n) (A.drop n) p T else none)else none
def rF(V sz p:Nat)(T:List UInt8):Option (List UInt8×Nat):=
 (rdN V sz p 5).bind fun a=>(rdN V sz a.2 5).bind fun c=>if a.1+257<=286/\c.1+1<=30 then
  (rdN V sz c.2 4).bind fun m=>(iN V sz (m.1+4) m.2).bind fun B=>(lnG V sz B.1 (a.1+257+(c.1+1)) B.2 []).bind fun A=>qt V sz (a.1+257) A.1 A.2 T else none
def zB(V sz p:Nat)(T:List UInt8):Option (List UInt8×Nat):=jA V sz (dj 288) (List.replicate 32 5) p T
def fu(V sz k p:Nat)(T:List UInt8):Option (List UInt8×Nat):=
 if k=0 then ic V sz p T else if k=1 then zB V sz p T else if k=2 then rF V sz p T else none
theorem Cq{V sz n p q:Nat}{A:List Int}{T T':List UInt8}(h:qt V sz n A p T=some (T',q)):q<=sz/\p<q/\(T.length<=300->T'.length<=300):=by
 unfold qt at h
 split at h
 ·
  split at h
  · exact vv h
  · cases h
 · cases h
theorem BO{V sz p q:Nat}{T T':List UInt8}(h:rF V sz p T=some (T',q)):q<=sz/\p<=q/\(T.length<=300->T'.length<=300):=by
 unfold rF at h;rcases h1:rdN V sz p 5 with _|⟨a,q1⟩
 · rw[h1]at h;cases h
 rw[h1]at h;simp only[Option.bind_some]at h;rcases h2:rdN V sz q1 5 with _|⟨c,q2⟩
 · rw[h2]at h;cases h
 rw[h2]at h;simp only[Option.bind_some]at h
 split at h
 ·
  rcases h3:rdN V sz q2 4 with _|⟨m,q3⟩
  · rw[h3]at h;cases h
  rw[h3]at h;simp only[Option.bind_some]at h;rcases h4:iN V sz (m+4) q3 with _|⟨B,q4⟩
  · rw[h4]at h;cases h
  rw[h4]at h;simp only[Option.bind_some]at h;rcases h5:lnG V sz B (a+257+(c+1)) q4 []with _|⟨A,q5⟩
  · rw[h5]at h;cases h
  rw[h5]at h;simp only[Option.bind_some]at h;have b1:=br h1;have b2:=br h2;have b3:=br h3;have b4:=tF h4 b3.1;have b5:=GK h5 b4.1;have b6:=Cq h;exact⟨b6.1,by omega,b6.2.2⟩
 · cases h
theorem qX{V sz k p q:Nat}{T T':List UInt8}(h:fu V sz k p T=some (T',q)):q<=sz/\p<=q/\(T.length<=300->T'.length<=300):=by
 unfold fu at h
 split at h
 · exact tV h
 ·
  split at h
  · have:=vv h;exact⟨this.1,by omega,this.2.2⟩
  ·
   split at h
   · exact BO h
   · cases h
def fG(V sz:Nat):Nat->Nat->List UInt8->Option (List UInt8×Nat)
 | 0,_,_=>none
 | f+1,p,T=>(rdN V sz p 1).bind fun a=>(rdN V sz a.2 2).bind fun k=>(fu V sz k.1 k.2 T).bind fun r=>if a.1=1 then some r else fG V sz f r.2 r.1
def gk(V sz p:Nat)(T:List UInt8):Option (List UInt8×Nat):=fG V sz (sz+1-p) p T
def jE(V sz p:Nat)(T:List UInt8):Option (List UInt8×Nat):=(gk V sz p T).bind fun r=>(iZ V r.2).bind fun q=>some (r.1,q)
theorem xU{V sz:Nat} : ∀(n f p:Nat) (T:List UInt8),sz+1-p<=n->sz+1-p<=f->fG V sz f p T=fG V sz (sz+1-p) p T:=by
 intro n;induction n with
 | zero=>
  intro f p T h1 h2;have e:sz+1-p=0:=by omega
  rw[e];cases f with
  | zero=>rfl
  | succ f=>
   have hd:rdN V sz p 1=none:=oI (by omega);simp only[fG,hd,Option.bind_none]
 | succ n ih=>
  intro f p T h1 h2;rcases hd:rdN V sz p 1 with _|⟨a,q⟩
  ·
   cases f with
   | zero=>rw[show sz+1-p=0 by omega]
   | succ f=>
    rcases hm:sz+1-p with _|m
    · simp only[fG,hd,Option.bind_none]
    · simp only[fG,hd,Option.bind_none]
  ·
   have hb:=br hd;obtain⟨f',rfl⟩:∃g,f=g+1:=⟨f-1,by omega⟩;obtain⟨m,hm⟩:∃g,sz+1-p=g+1:=⟨sz-p,by omega⟩;rw[hm];simp only[fG,hd,Option.bind_some];rcases hk:rdN V sz q 2 with _|⟨k,q2⟩
   · rfl
   ·
    have hb2:=br hk;simp only[Option.bind_some];rcases hr:fu V sz k q2 T with _|⟨T',q3⟩
    · rfl
    ·
     have hb3:=qX hr;simp only[Option.bind_some]
     split
     · rfl
     · rw[ih f' q3 T' (by omega) (by omega),ih m q3 T' (by omega) (by omega)]
theorem po{V sz p:Nat}{T:List UInt8} : gk V sz p T=(rdN V sz p 1).bind fun a=>(rdN V sz a.2 2).bind fun k=>(fu V sz k.1 k.2 T).bind fun r=>if a.1=1 then some r else gk V sz r.2 r.1:=by
 rcases hd:rdN V sz p 1 with _|⟨a,q⟩
 ·
  unfold gk;rcases hm:sz+1-p with _|m
  · rfl
  · simp only[fG,hd,Option.bind_none]
 ·
  have hb:=br hd;unfold gk;obtain⟨m,hm⟩:∃g,sz+1-p=g+1:=⟨sz-p,by omega⟩;rw[hm];simp only[fG,hd,Option.bind_some];rcases hk:rdN V sz q 2 with _|⟨k,q2⟩
  · rfl
  ·
   have hb2:=br hk;simp only[Option.bind_some];rcases hr:fu V sz k q2 T with _|⟨T',q3⟩
   · rfl
   ·
    have hb3:=qX hr;simp only[Option.bind_some]
    split
    · rfl
    · exact xU m m q3 T' (by omega) (by omega)
theorem Ec{V sz:Nat} : ∀(f p:Nat) (T T':List UInt8) (q:Nat),fG V sz f p T=some (T',q)->q<=sz/\p<q/\(T.length<=300->T'.length<=300):=by
 intro f;induction f with
 | zero=>intro p T T' q h;simp[fG]at h
 | succ f ih=>
  intro p T T' q h;simp only[fG]at h;rcases hd:rdN V sz p 1 with _|⟨a,q1⟩
  · rw[hd]at h;cases h
  rw[hd]at h;simp only[Option.bind_some]at h;rcases hk:rdN V sz q1 2 with _|⟨k,q2⟩
  · rw[hk]at h;cases h
  rw[hk]at h;simp only[Option.bind_some]at h;rcases hr:fu V sz k q2 T with _|⟨T2,q3⟩
  · rw[hr]at h;cases h
  rw[hr]at h;simp only[Option.bind_some]at h;have b1:=br hd;have b2:=br hk;have b3:=qX hr
  split at h
  · simp only[Option.some.injEq,Prod.mk.injEq]at h;obtain⟨rfl,rfl⟩:=h;exact⟨b3.1,by omega,b3.2.2⟩
  · have b4:=ih _ _ _ _ h;exact⟨b4.1,by omega,fun h=>b4.2.2 (b3.2.2 h)⟩
theorem Ed{V sz p q:Nat}{T T':List UInt8}(h:gk V sz p T=some (T',q)):q<=sz/\p<q/\(T.length<=300->T'.length<=300):=Ec _ _ _ _ _ h
end Go.Proofs.YtkpfkgoiaicgbaaGreatDoor
