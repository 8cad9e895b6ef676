/- Of what the proof is made: 5 texts, one behind the other. -/
import Derived.Test.YtfhdadkcophoaaaGreatDoorM21
import Derived.Test.YtfhdadkcophoaaaGreatDoorM20
import Derived.Test.YtfhdadkcophoaaaGreatDoorM9
import Derived.Test.YtfhdadkcophoaaaGreatDoorM17
import Derived.WalkLawsBesides
import Derived.Test.YtfhdadkcophoaaaGreatDoorM3
set_option linter.unusedSimpArgs false
set_option linter.unusedVariables false
set_option maxHeartbeats 1600000
namespace Go.Proofs.YtfhdadkcophoaaaGreatDoor
open Go.RowKit Corb
def iM:Ending:=.panicked [{ v:=.iface 265 (.agg #[]),recovered:=false }]
theorem ct(w:World):Calls Tryz.prog 196 #[.bool true] w fun e w'=>e = .returned (.tuple #[])/\w'=w:=by
 go_enter Tryz.func196,Tryz.ntmps196;go_wp2
 go_end0
 exact⟨rfl,rfl⟩
theorem dN(w:World):Calls Tryz.prog 196 #[.bool false] w fun e w'=>e=iM/\w'=w:=by
 go_enter Tryz.func196,Tryz.ntmps196;go_wp2;exact⟨rfl,rfl,rfl⟩
def gU(w:World)(b:Nat)(s:ByteArray)(d:Option (Nat×Nat))(e:Ending)(w':World):Prop:=
 aw b w w'/\match d with
  | none=>e=iM
  | some (x,q)=>e = .returned (.int .i64 (x:Nat))/\Rdr w' b s q
theorem bC(b p k:Nat)(s:ByteArray)(w:World)(h:Rdr w b s p)(hs:s.size<=2000000)(hk:k<=16) :
  Calls Tryz.prog 195 #[.pointer (some ⟨b,0,none⟩),.int .i64 (k:Int)] w (gU w b s (rdN (ar s) (8*s.size) p k)):=by
 have HP:=af (rB b p k 0 s w h hs hk);unfold gU;by_cases hc:p+k<=8*s.size
 · rw[lz hc];have hd:decide (8*s.size<p+k)=false:=a0n (by omega);have Hd:=af hd;clear h hs hk hc hd;go_enter Tryz.func195,Tryz.ntmps195;go_wp2_with fail;refine(ae HP).mono ?_;rintro e x1 ⟨rfl,r1,k1⟩;have r2:=r1;unfold Rdr at r2;rw[ae Hd]at r2;obtain⟨q0,q1,q2,_⟩:=r2;have HK:=af (a0c r1 k1);clear r1 k1 HP q0 q1;go_wp2_with fail;refine(ct _).mono ?_;rintro e x2 ⟨rfl,hx2⟩;rw[hx2];clear hx2 x2;go_wp2;go_ret;exact⟨(ae HK).2,rfl,(ae HK).1⟩
 · rw[ox hc];have hd:decide (8*s.size<p+k)=true:=a0E (by omega);have Hd:=af hd;clear h hs hk hc hd;go_enter Tryz.func195,Tryz.ntmps195;go_wp2_with fail;refine(ae HP).mono ?_;rintro e x1 ⟨rfl,r1,k1⟩;have r2:=r1;unfold Rdr at r2;rw[ae Hd]at r2;obtain⟨q0,q1,q2,_⟩:=r2;have HK:=af k1;clear r1 k1 HP q0 q1;go_wp2_with fail;refine(dN _).mono ?_;rintro e x2 ⟨rfl,hx2⟩;rw[hx2];clear hx2 x2;exact⟨rfl,ae HK,rfl⟩
theorem aw.later{b:Nat}{w w1 w2:World}(h:aw b w w1)(hb:Below w1.heap.size w1 w2)(hbw:b<w1.heap.size):aw b w w2:=
 ⟨h.1.trans (hb.mono (a0u hbw)),fun j hj hne=>(hb.block j (a0g hj h.1.size)).trans (h.2 j hj hne),fun j hj=>⟨(hb.cell (p:=⟨b,j,none⟩) hbw).trans (h.3 j hj).1,(hb.frozen (p:=⟨b,j,none⟩) hbw).trans (h.3 j hj).2⟩⟩
def je(V p:Nat):Option Nat:=if V/2 ^ p%2 ^ ((8-p%8)%8)=0 then some (p+(8-p%8)%8)else none
theorem lW(b p:Nat)(s:ByteArray)(w:World)(h:Rdr w b s p)(hs:s.size<=2000000)(hp:p<=8*s.size) :
  Calls Tryz.prog 197 #[.pointer (some ⟨b,0,none⟩)] w fun e w'=>aw b w w'/\match je (ar s) p with
   | none=>e=iM
   | some q=>e = .returned (.tuple #[])/\Rdr w' b s q:=by
 have HP:=af (o9 b p s w h hs hp);unfold je;by_cases hc:ar s/2 ^ p%2 ^ ((8-p%8)%8)=0
 ·
  rw[a0d hc];rw[a0E hc]at HP;clear h hs hp hc;go_enter Tryz.func197,Tryz.ntmps197;go_wp2_with fail;refine(ae HP).mono ?_;rintro e x1 ⟨rfl,r1,k1⟩;have HK:=af (a0c r1 k1);clear r1 k1 HP;go_wp2_with fail;refine(ct _).mono ?_;rintro e x2 ⟨rfl,hx2⟩;rw[hx2];clear hx2 x2;go_wp2
  go_end0
  exact⟨(ae HK).2,rfl,(ae HK).1⟩
 · rw[a0e hc];rw[a0n hc]at HP;clear h hs hp hc;go_enter Tryz.func197,Tryz.ntmps197;go_wp2_with fail;refine(ae HP).mono ?_;rintro e x1 ⟨rfl,r1,k1⟩;have HK:=af k1;clear r1 k1 HP;go_wp2_with fail;refine(dN _).mono ?_;rintro e x2 ⟨rfl,hx2⟩;rw[hx2];clear hx2 x2;exact⟨rfl,ae HK,rfl⟩
set_option maxRecDepth 100000 in
theorem rE(L G M b p k:Nat)(s:ByteArray)(w:World)(h:Rdr w b s p)(hs:s.size<=2000000)(hL:L<=3)(hG:1<=G)(hG4:G<=4)(hM:M<=30)(hMG:∀k,k<M->k/G<=15)(hk:k<=1000) :
  Calls Tryz.prog 212 #[.pointer (some ⟨b,0,none⟩),.agg #[.int .i64 (L:Nat),.int .i64 (G:Nat),.int .i64 (M:Nat)],.int .i64 (k:Nat)] w (gU w b s (scG (ar s) (8*s.size) L G M k p)):=by
 have hbl:=h.lt;have hA:aw b w (w.alloc (.cells #[.int .i64 (L:Nat),.int .i64 (G:Nat),.int .i64 (M:Nat)] 255)):=(aw.refl b w).alloc hbl _;have hbA:(w.alloc (.cells #[.int .i64 (L:Nat),.int .i64 (G:Nat),.int .i64 (M:Nat)] 255)).heap[w.heap.size]?=some (Obj.cells #[.int .i64 (L:Nat),.int .i64 (G:Nat),.int .i64 (M:Nat)] 255):=alloc_at _ _;have hrA:=h.alloc (.cells #[.int .i64 (L:Nat),.int .i64 (G:Nat),.int .i64 (M:Nat)] 255);have HS:=af hs;unfold gU scG;by_cases hc:k<M
 ·
  rw[a0d hc];have hcI':(k:Int)<(M:Int):=by omega
  have hbd:=vd hL hG hG4 (hMG k hc);have HSt:=af (fun W=>xT L G M k W hL hG hG4 (hMG k hc) (by omega));obtain⟨c0,c1,c2,_⟩:=wI hbA;have HX:=af (a0c hA hrA);clear h hs hL hG hG4 hM hMG hk hc hA hrA hbA;generalize hE:stF L G k=E at *
  clear hE;obtain⟨E1,E2⟩:=E;simp only at hbd HSt ⊢;rcases hN:rdN (ar s) (8*s.size) p E2 with _|⟨x,q⟩
  · simp only[a1K];have HNe:=af hN;clear hN;go_enter Tryz.func212,Tryz.ntmps212;go_wp2_with fail;refine(ct _).mono ?_;rintro e x2 ⟨rfl,hx2⟩;rw[hx2];clear hx2 x2;go_wp2_with fail;refine(ae HSt _).mono ?_;rintro e x2 ⟨rfl,b2⟩;have hk2:=(ae HX).1.later b2 (ae HX).2.lt;have hr2:=(ae HX).2.kept (b2.mono (ae HX).2.lt);have HN:=af (bC b p E2 s x2 hr2 (ae HS) (by omega));unfold gU at HN;rw[ae HNe]at HN;have HK:=af hk2;clear b2 hk2 hr2 HX HSt c0 c1 c2 HNe;go_wp2_with fail;refine(ae HN).mono ?_;rintro e x3 ⟨k3,rfl⟩;exact⟨rfl,(ae HK).trans k3,rfl⟩
  ·
   simp only[a0f];have HNe:=af hN;have hxb:=(bw hN).2.2.2;have hxI:(x:Int)<65536:=by
    have h1:2 ^ E2<=2 ^ 16:=a0Q (by omega) (by omega);omega
   clear hN hxb;go_enter Tryz.func212,Tryz.ntmps212;go_wp2_with fail;refine(ct _).mono ?_;rintro e x2 ⟨rfl,hx2⟩;rw[hx2];clear hx2 x2;go_wp2_with fail;refine(ae HSt _).mono ?_;rintro e x2 ⟨rfl,b2⟩;have hk2:=(ae HX).1.later b2 (ae HX).2.lt;have hr2:=(ae HX).2.kept (b2.mono (ae HX).2.lt);have HN:=af (bC b p E2 s x2 hr2 (ae HS) (by omega));unfold gU at HN;rw[ae HNe]at HN;have HK:=af hk2;clear b2 hk2 hr2 HX HSt c0 c1 c2 HNe;go_wp2_with fail;refine(ae HN).mono ?_;rintro e x3 ⟨k3,rfl,r3⟩;have HY:=af (a0c ((ae HK).trans k3) r3);clear k3 r3 HN HK;go_wp2;go_ret;exact⟨(ae HY).1,aI (by simp),(ae HY).2⟩
 ·
  rw[a0e hc];have hcI':¬ (k:Int)<(M:Int):=by omega
  have HK:=af hA;clear h hs hL hG hG4 hM hMG hk hc hA hrA hbA;go_enter Tryz.func212,Tryz.ntmps212;go_wp2_with fail;refine(dN _).mono ?_;rintro e x2 ⟨rfl,hx2⟩;rw[hx2];clear hx2 x2;exact⟨rfl,ae HK,rfl⟩
theorem I5(n:Nat)(h:n<=65535):n ^^^ 65535=65535-n:=by
 apply Nat.eq_of_testBit_eq;intro i;have e1:(65535:Nat)=2 ^ 16-1:=rfl;have e2:65535-n=2 ^ 16-(n+1):=by omega
 rw[e2,Nat.testBit_two_pow_sub_succ (by omega),Nat.testBit_xor,e1,Nat.testBit_two_pow_sub_one];by_cases hi:i<16
 · simp[hi]
 · have:n.testBit i=false:=Nat.testBit_lt_two_pow (a0g (by omega) (a0Q (by omega) (Nat.le_of_not_lt hi)));simp[hi,this]
def gW(V sz:Nat):Nat->Nat->List UInt8->Option (List UInt8×Nat)
 | 0,p,T=>some (T,p)
 | n+1,p,T=>(rdN V sz p 8).bind fun x=>(dA T ((x.1:Nat),0,0)).bind fun T'=>gW V sz n x.2 T'
def ig(V sz p:Nat)(T:List UInt8):Option (List UInt8×Nat):=
 (je V p).bind fun q=>(rdN V sz q 16).bind fun a=>(rdN V sz a.2 16).bind fun c=>if c.1=65535-a.1 then gW V sz a.1 c.2 T else none
theorem Cd{V sz:Nat} : ∀(n p:Nat) (T T':List UInt8) (q:Nat),gW V sz n p T=some (T',q)->p<=sz->q<=sz/\p<=q/\(T.length<=300->T'.length<=300):=by
 intro n;induction n with
 | zero=>
  intro p T T' q h hp;simp only[gW,a0k,a0P]at h;obtain⟨rfl,rfl⟩:=h;exact⟨hp,a0a _,id⟩
 | succ n ih=>
  intro p T T' q h hp;simp only[gW]at h;rcases h1:rdN V sz p 8 with _|⟨x,r⟩
  · rw[h1]at h;cases h
  ·
   rw[h1]at h;simp only[a0f]at h;have b1:=bw h1;rcases h2:dA T ((x:Nat),0,0)with _|T2
   · rw[h2]at h;cases h
   · rw[h2]at h;simp only[a0f]at h;obtain⟨a1,a2,a3⟩:=ih r T2 T' q h b1.1;exact⟨a1,by omega,fun _=>a3 (mD h2)⟩
theorem xK{V p q:Nat}(h:je V p=some q):p<=q/\q=p+(8-p%8)%8:=by
 unfold je at h
 split at h
 · simp only[a0k]at h;omega
 · cases h
theorem tz{V sz p q:Nat}{T T':List UInt8}(h:ig V sz p T=some (T',q)):q<=sz/\p<=q/\(T.length<=300->T'.length<=300):=by
 unfold ig at h;rcases h1:je V p with _|r
 · rw[h1]at h;cases h
 rw[h1]at h;simp only[a0f]at h;rcases h2:rdN V sz r 16 with _|⟨a,r2⟩
 · rw[h2]at h;cases h
 rw[h2]at h;simp only[a0f]at h;rcases h3:rdN V sz r2 16 with _|⟨c,r3⟩
 · rw[h3]at h;cases h
 rw[h3]at h;simp only[a0f]at h
 split at h
 · have b1:=xK h1;have b2:=bw h2;have b3:=bw h3;obtain⟨a1,a2,a3⟩:=Cd _ _ _ _ _ h b3.1;exact⟨a1,by omega,a3⟩
 · cases h
def lbG(V sz:Nat):List Nat->Nat->List Int->Option (List Int×Nat)
 | [],p,l=>some (l,p)
 | i :: is,p,l=>(rdN V sz p 3).bind fun x=>lbG V sz is x.2 (l.set i ((x.1:Nat):Int))
def iR(V sz many p:Nat):Option (List Int×Nat):=(lbG V sz (bD.take many) p (List.replicate 19 0)).bind fun x=>if am x.1=true then some x else none
theorem LE{V sz:Nat} : ∀(is:List Nat) (p:Nat) (l l':List Int) (q:Nat),lbG V sz is p l=some (l',q)->p<=sz->q<=sz/\p<=q/\l'.length=l.length:=by
 intro is;induction is with
 | nil=>
  intro p l l' q h hp;simp only[lbG,a0k,a0P]at h;obtain⟨rfl,rfl⟩:=h;exact⟨hp,a0a _,rfl⟩
 | cons i is ih=>
  intro p l l' q h hp;simp only[lbG]at h;rcases h1:rdN V sz p 3 with _|⟨x,r⟩
  · rw[h1]at h;cases h
  · rw[h1]at h;simp only[a0f]at h;have b1:=bw h1;obtain⟨a1,a2,a3⟩:=ih _ _ _ _ h b1.1;exact⟨a1,by omega,by rw[a3,a1w]⟩
theorem tg{V sz many p q:Nat}{l:List Int}(h:iR V sz many p=some (l,q))(hp:p<=sz):q<=sz/\p<=q/\am l=true/\l.length=19:=by
 unfold iR at h;rcases h1:lbG V sz (bD.take many) p (List.replicate 19 0)with _|⟨l1,q1⟩
 · rw[h1]at h;cases h
 ·
  rw[h1]at h;simp only[a0f]at h
  split at h
  · simp only[a0k,a0P]at h;obtain⟨rfl,rfl⟩:=h;obtain⟨a1,a2,a3⟩:=LE _ _ _ _ _ h1 hp;exact⟨a1,a2,by assumption,by rw[a3];simp⟩
  · cases h
def fY(V sz:Nat)(A:List Int)(k:Int)(q:Nat):Option (List Int×Nat):=
 if k=16 then(if A.length=0 then none else(rdN V sz q 2).bind fun x=>some (A++List.replicate (3+x.1) (A.getD (A.length-1) 0),x.2))
 else if k=17 then(rdN V sz q 3).bind fun x=>some (A++List.replicate (3+x.1) 0,x.2)
 else if k=18 then(rdN V sz q 7).bind fun x=>some (A++List.replicate (11+x.1) 0,x.2)
 else some (A++[k],q)
def lnF(V sz:Nat)(B:List Int)(n:Nat):Nat->Nat->List Int->Option (List Int×Nat)
 | 0,_,_=>none
 | f+1,p,A=>if A.length<n then(dec B V sz p).bind fun k=>(fY V sz A k.1 k.2).bind fun x=>lnF V sz B n f x.2 x.1
  else if A.length=n then some (A,p)else none
def lnG(V sz:Nat)(B:List Int)(n p:Nat)(A:List Int):Option (List Int×Nat):=lnF V sz B n (sz+1-p) p A
theorem pV{V sz:Nat}{A A':List Int}{k:Int}{q r:Nat}(h:fY V sz A k q=some (A',r))(hq:q<=sz):r<=sz/\q<=r/\A.length<A'.length/\A'.length<=A.length+138:=by
 unfold fY at h;have key:∀(bt c:Nat) (v:Int),bt<=7->c<=11->3<=c->(rdN V sz q bt).bind (fun x=>some (A++List.replicate (c+x.1) v,x.2))=some (A',r)->r<=sz/\q<=r/\A.length<A'.length/\A'.length<=A.length+138:=by
  intro bt c v hbt hc hc3 h;rcases h1:rdN V sz q bt with _|⟨x,t⟩
  · rw[h1]at h;cases h
  · rw[h1]at h;simp only[a0f,a0k,a0P]at h;obtain⟨rfl,rfl⟩:=h;have b1:=bw h1;have b2:2 ^ bt<=2 ^ 7:=a0Q (by omega) hbt;refine⟨b1.1,by omega,?_,?_⟩<;>simp only[a0i,a0A]<;>omega
 split at h
 ·
  split at h
  · cases h
  · exact key 2 3 _ (by omega) (by omega) (by omega) h
 ·
  split at h
  · exact key 3 3 _ (by omega) (by omega) (by omega) h
  ·
   split at h
   · exact key 7 11 _ (by omega) (by omega) (by omega) h
   · simp only[a0k,a0P]at h;obtain⟨rfl,rfl⟩:=h;exact⟨hq,a0a _,by simp,by simp⟩
theorem Gs{V sz:Nat}{B:List Int}{n:Nat} : ∀(m f p:Nat) (A:List Int),sz+1-p<=m->sz+1-p<=f->p<=sz->lnF V sz B n f p A=lnF V sz B n (sz+1-p) p A:=by
 intro m;induction m with
 | zero=>intro f p A h1 h2 h3;omega
 | succ m ih=>
  intro f p A h1 h2 h3;obtain⟨f',rfl⟩:∃g,f=g+1:=⟨f-1,by omega⟩;obtain⟨m',hm⟩:∃g,sz+1-p=g+1:=⟨sz-p,by omega⟩;rw[hm];simp only[lnF]
  split
  ·
   rcases hd:dec B V sz p with _|⟨i,q⟩
   · rfl
   ·
    have hb:=fy hd;simp only[a0f];rcases ha:fY V sz A i q with _|⟨A',r⟩
    · rfl
    · have hr:=pV ha hb.1;simp only[a0f];rw[ih f' r A' (by omega) (by omega) hr.1,ih m' r A' (by omega) (by omega) hr.1]
  · rfl
theorem wV{V sz:Nat}{B:List Int}{n p:Nat}{A:List Int}(hp:p<=sz)(h:A.length<n):lnG V sz B n p A=(dec B V sz p).bind fun k=>(fY V sz A k.1 k.2).bind fun x=>lnG V sz B n x.2 x.1:=by
 unfold lnG;obtain⟨m,hm⟩:∃g,sz+1-p=g+1:=⟨sz-p,by omega⟩;rw[hm];simp only[lnF,a0d h];rcases hd:dec B V sz p with _|⟨i,q⟩
 · rfl
 ·
  have hb:=fy hd;simp only[a0f];rcases ha:fY V sz A i q with _|⟨A',r⟩
  · rfl
  · have hr:=pV ha hb.1;simp only[a0f];exact Gs m m r A' (by omega) (by omega) hr.1
theorem wW{V sz:Nat}{B:List Int}{n p:Nat}{A:List Int}(hp:p<=sz)(h:¬ A.length<n):lnG V sz B n p A=if A.length=n then some (A,p)else none:=by
 unfold lnG;obtain⟨m,hm⟩:∃g,sz+1-p=g+1:=⟨sz-p,by omega⟩;rw[hm];simp only[lnF,a0e h]
theorem LH{V sz:Nat}{B:List Int}{n:Nat} : ∀(f p:Nat) (A A':List Int) (q:Nat),lnF V sz B n f p A=some (A',q)->p<=sz->q<=sz/\p<=q/\A'.length=n:=by
 intro f;induction f with
 | zero=>intro p A A' q h;simp[lnF]at h
 | succ f ih=>
  intro p A A' q h hp;simp only[lnF]at h
  split at h
  ·
   rcases hd:dec B V sz p with _|⟨i,r⟩
   · rw[hd]at h;cases h
   ·
    rw[hd]at h;have hb:=fy hd;simp only[a0f]at h;rcases ha:fY V sz A i r with _|⟨A2,r2⟩
    · rw[ha]at h;cases h
    · rw[ha]at h;have hr:=pV ha hb.1;simp only[a0f]at h;obtain⟨h1,h2,h3⟩:=ih _ _ _ _ h hr.1;exact⟨h1,by omega,h3⟩
  ·
   split at h
   · simp only[a0k,a0P]at h;obtain⟨rfl,rfl⟩:=h;exact⟨hp,a0a _,by assumption⟩
   · cases h
theorem Gt{V sz:Nat}{B:List Int}{n p q:Nat}{A A':List Int}(h:lnG V sz B n p A=some (A',q))(hp:p<=sz):q<=sz/\p<=q/\A'.length=n:=LH _ _ _ _ _ h hp
def qd(V sz n:Nat)(A:List Int)(p:Nat)(T:List UInt8):Option (List UInt8×Nat):=
 if am (A.take n)=true then(if am (A.drop n)=true then jE V sz (A.take n) (A.drop n) p T else none)else none
def rp(V sz p:Nat)(T:List UInt8):Option (List UInt8×Nat):=
 (rdN V sz p 5).bind fun a=>(rdN V sz a.2 5).bind fun c=>if a.1+257<=286/\c.1+1<=30 then
  (rdN V sz c.2 4).bind fun m=>(iR V sz (m.1+4) m.2).bind fun B=>(lnG V sz B.1 (a.1+257+(c.1+1)) B.2 []).bind fun A=>qd V sz (a.1+257) A.1 A.2 T else none
def ze(V sz p:Nat)(T:List UInt8):Option (List UInt8×Nat):=jE V sz (di 288) (List.replicate 32 5) p T
def fu(V sz k p:Nat)(T:List UInt8):Option (List UInt8×Nat):=
 if k=0 then ig V sz p T else if k=1 then ze V sz p T else if k=2 then rp V sz p T else none
theorem B9{V sz n p q:Nat}{A:List Int}{T T':List UInt8}(h:qd V sz n A p T=some (T',q)):q<=sz/\p<q/\(T.length<=300->T'.length<=300):=by
 unfold qd at h
 split at h
 ·
  split at h
  · exact vf h
  · cases h
 · cases h
theorem Bw{V sz p q:Nat}{T T':List UInt8}(h:rp V sz p T=some (T',q)):q<=sz/\p<=q/\(T.length<=300->T'.length<=300):=by
 unfold rp at h;rcases h1:rdN V sz p 5 with _|⟨a,q1⟩
 · rw[h1]at h;cases h
 rw[h1]at h;simp only[a0f]at h;rcases h2:rdN V sz q1 5 with _|⟨c,q2⟩
 · rw[h2]at h;cases h
 rw[h2]at h;simp only[a0f]at h
 split at h
 ·
  rcases h3:rdN V sz q2 4 with _|⟨m,q3⟩
  · rw[h3]at h;cases h
  rw[h3]at h;simp only[a0f]at h;rcases h4:iR V sz (m+4) q3 with _|⟨B,q4⟩
  · rw[h4]at h;cases h
  rw[h4]at h;simp only[a0f]at h;rcases h5:lnG V sz B (a+257+(c+1)) q4 []with _|⟨A,q5⟩
  · rw[h5]at h;cases h
  rw[h5]at h;simp only[a0f]at h;have b1:=bw h1;have b2:=bw h2;have b3:=bw h3;have b4:=tg h4 b3.1;have b5:=Gt h5 b4.1;have b6:=B9 h;exact⟨b6.1,by omega,b6.2.2⟩
 · cases h
theorem qJ{V sz k p q:Nat}{T T':List UInt8}(h:fu V sz k p T=some (T',q)):q<=sz/\p<=q/\(T.length<=300->T'.length<=300):=by
 unfold fu at h
 split at h
 · exact tz h
 ·
  split at h
  · have:=vf h;exact⟨this.1,by omega,this.2.2⟩
  ·
   split at h
   · exact Bw h
   · cases h
def fH(V sz:Nat):Nat->Nat->List UInt8->Option (List UInt8×Nat)
 | 0,_,_=>none
 | f+1,p,T=>(rdN V sz p 1).bind fun a=>(rdN V sz a.2 2).bind fun k=>(fu V sz k.1 k.2 T).bind fun r=>if a.1=1 then some r else fH V sz f r.2 r.1
def gq(V sz p:Nat)(T:List UInt8):Option (List UInt8×Nat):=fH V sz (sz+1-p) p T
def jI(V sz p:Nat)(T:List UInt8):Option (List UInt8×Nat):=(gq V sz p T).bind fun r=>(je V r.2).bind fun q=>some (r.1,q)
theorem xH{V sz:Nat} : ∀(n f p:Nat) (T:List UInt8),sz+1-p<=n->sz+1-p<=f->fH V sz f p T=fH V sz (sz+1-p) p T:=by
 intro n;induction n with
 | zero=>
  intro f p T h1 h2;have e:sz+1-p=0:=by omega
  rw[e];cases f with
  | zero=>rfl
  | succ f=>
   have hd:rdN V sz p 1=none:=ox (by omega);simp only[fH,hd,a1K]
 | succ n ih=>
  intro f p T h1 h2;rcases hd:rdN V sz p 1 with _|⟨a,q⟩
  ·
   cases f with
   | zero=>rw[show sz+1-p=0 by omega]
   | succ f=>
    rcases hm:sz+1-p with _|m
    · simp only[fH,hd,a1K]
    · simp only[fH,hd,a1K]
  ·
   have hb:=bw hd;obtain⟨f',rfl⟩:∃g,f=g+1:=⟨f-1,by omega⟩;obtain⟨m,hm⟩:∃g,sz+1-p=g+1:=⟨sz-p,by omega⟩;rw[hm];simp only[fH,hd,a0f];rcases hk:rdN V sz q 2 with _|⟨k,q2⟩
   · rfl
   ·
    have hb2:=bw hk;simp only[a0f];rcases hr:fu V sz k q2 T with _|⟨T',q3⟩
    · rfl
    ·
     have hb3:=qJ hr;simp only[a0f]
     split
     · rfl
     · rw[ih f' q3 T' (by omega) (by omega),ih m q3 T' (by omega) (by omega)]
theorem oY{V sz p:Nat}{T:List UInt8} : gq V sz p T=(rdN V sz p 1).bind fun a=>(rdN V sz a.2 2).bind fun k=>(fu V sz k.1 k.2 T).bind fun r=>if a.1=1 then some r else gq V sz r.2 r.1:=by
 rcases hd:rdN V sz p 1 with _|⟨a,q⟩
 ·
  unfold gq;rcases hm:sz+1-p with _|m
  · rfl
  · simp only[fH,hd,a1K]
 ·
  have hb:=bw hd;unfold gq;obtain⟨m,hm⟩:∃g,sz+1-p=g+1:=⟨sz-p,by omega⟩;rw[hm];simp only[fH,hd,a0f];rcases hk:rdN V sz q 2 with _|⟨k,q2⟩
  · rfl
  ·
   have hb2:=bw hk;simp only[a0f];rcases hr:fu V sz k q2 T with _|⟨T',q3⟩
   · rfl
   ·
    have hb3:=qJ hr;simp only[a0f]
    split
    · rfl
    · exact xH m m q3 T' (by omega) (by omega)
theorem DU{V sz:Nat} : ∀(f p:Nat) (T T':List UInt8) (q:Nat),fH V sz f p T=some (T',q)->q<=sz/\p<q/\(T.length<=300->T'.length<=300):=by
 intro f;induction f with
 | zero=>intro p T T' q h;simp[fH]at h
 | succ f ih=>
  intro p T T' q h;simp only[fH]at h;rcases hd:rdN V sz p 1 with _|⟨a,q1⟩
  · rw[hd]at h;cases h
  rw[hd]at h;simp only[a0f]at h;rcases hk:rdN V sz q1 2 with _|⟨k,q2⟩
  · rw[hk]at h;cases h
  rw[hk]at h;simp only[a0f]at h;rcases hr:fu V sz k q2 T with _|⟨T2,q3⟩
  · rw[hr]at h;cases h
  rw[hr]at h;simp only[a0f]at h;have b1:=bw hd;have b2:=bw hk;have b3:=qJ hr
  split at h
  · simp only[a0k,a0P]at h;obtain⟨rfl,rfl⟩:=h;exact⟨b3.1,by omega,b3.2.2⟩
  · have b4:=ih _ _ _ _ h;exact⟨b4.1,by omega,fun h=>b4.2.2 (b3.2.2 h)⟩
theorem DV{V sz p q:Nat}{T T':List UInt8}(h:gq V sz p T=some (T',q)):q<=sz/\p<q/\(T.length<=300->T'.length<=300):=DU _ _ _ _ _ h
end Go.Proofs.YtfhdadkcophoaaaGreatDoor
