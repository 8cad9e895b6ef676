/- Of what the proof is made: 5 texts, one behind the other. -/
import Derived.Test.YtkdlcomfpffhhaaGreatDoorM20
import Derived.Test.YtkdlcomfpffhhaaGreatDoorM19
import Derived.Test.YtkdlcomfpffhhaaGreatDoorM8
import Derived.Test.YtkdlcomfpffhhaaGreatDoorM15
import Derived.WalkLawsBesides
import Derived.Test.YtkdlcomfpffhhaaGreatDoorM3
set_option linter.unusedSimpArgs false
set_option linter.unusedVariables false
set_option maxHeartbeats 1600000
namespace Go.Proofs.YtkdlcomfpffhhaaGreatDoor
open Go.RowKit Corb
def iC:Ending:=.panicked [{ v:=.iface 306 (.agg #[]),recovered:=false }]
theorem ci(w:World):Calls Tryz.prog 250 #[.bool true] w fun e w'=>e = .returned (.tuple #[])/\w'=w:=by
 go_enter Tryz.func250,Tryz.ntmps250;go_wp2
 go_end0
 exact⟨rfl,rfl⟩
theorem dP(w:World):Calls Tryz.prog 250 #[.bool false] w fun e w'=>e=iC/\w'=w:=by
 go_enter Tryz.func250,Tryz.ntmps250;go_wp2;exact⟨rfl,rfl,rfl⟩
def gK(w:World)(b:Nat)(s:ByteArray)(d:Option (Nat×Nat))(e:Ending)(w':World):Prop:=
 ax b w w'/\match d with
  | none=>e=iC
  | some (x,q)=>e = .returned (.int .i64 (x:Nat))/\Rdr w' b s q
theorem bu(b p k:Nat)(s:ByteArray)(w:World)(h:Rdr w b s p)(hs:s.size<=2000000)(hk:k<=16) :
  Calls Tryz.prog 249 #[.pointer (some ⟨b,0,none⟩),.int .i64 (k:Int)] w (gK w b s (rdN (au s) (8*s.size) p k)):=by
 have HP:=af (rC b p k 0 s w h hs hk);unfold gK;by_cases hc:p+k<=8*s.size
 · rw[lv hc];have hd:decide (8*s.size<p+k)=false:=a0p (by omega);have Hd:=af hd;clear h hs hk hc hd;go_enter Tryz.func249,Tryz.ntmps249;go_wp2_with fail;refine(ae HP).mono ?_;rintro e x1 ⟨rfl,r1,k1⟩;have r2:=r1;unfold Rdr at r2;rw[ae Hd]at r2;obtain⟨q0,q1,q2,_⟩:=r2;have HK:=af (a0b r1 k1);clear r1 k1 HP q0 q1;go_wp2_with fail;refine(ci _).mono ?_;rintro e x2 ⟨rfl,hx2⟩;rw[hx2];clear hx2 x2;go_wp2;go_ret;exact⟨(ae HK).2,rfl,(ae HK).1⟩
 · rw[ox hc];have hd:decide (8*s.size<p+k)=true:=a0G (by omega);have Hd:=af hd;clear h hs hk hc hd;go_enter Tryz.func249,Tryz.ntmps249;go_wp2_with fail;refine(ae HP).mono ?_;rintro e x1 ⟨rfl,r1,k1⟩;have r2:=r1;unfold Rdr at r2;rw[ae Hd]at r2;obtain⟨q0,q1,q2,_⟩:=r2;have HK:=af k1;clear r1 k1 HP q0 q1;go_wp2_with fail;refine(dP _).mono ?_;rintro e x2 ⟨rfl,hx2⟩;rw[hx2];clear hx2 x2;exact⟨rfl,ae HK,rfl⟩
theorem ax.later{b:Nat}{w w1 w2:World}(h:ax b w w1)(hb:Below w1.heap.size w1 w2)(hbw:b<w1.heap.size):ax b w w2:=
 ⟨h.1.trans (hb.mono (a0x hbw)),fun j hj hne=>(hb.block j (a0k hj h.1.size)).trans (h.2 j hj hne),fun j hj=>⟨(hb.cell (p:=⟨b,j,none⟩) hbw).trans (h.3 j hj).1,(hb.frozen (p:=⟨b,j,none⟩) hbw).trans (h.3 j hj).2⟩⟩
def iS(V p:Nat):Option Nat:=if V/2 ^ p%2 ^ ((8-p%8)%8)=0 then some (p+(8-p%8)%8)else none
theorem lP(b p:Nat)(s:ByteArray)(w:World)(h:Rdr w b s p)(hs:s.size<=2000000)(hp:p<=8*s.size) :
  Calls Tryz.prog 251 #[.pointer (some ⟨b,0,none⟩)] w fun e w'=>ax b w w'/\match iS (au s) p with
   | none=>e=iC
   | some q=>e = .returned (.tuple #[])/\Rdr w' b s q:=by
 have HP:=af (pa b p s w h hs hp);unfold iS;by_cases hc:au s/2 ^ p%2 ^ ((8-p%8)%8)=0
 ·
  rw[a0d hc];rw[a0G hc]at HP;clear h hs hp hc;go_enter Tryz.func251,Tryz.ntmps251;go_wp2_with fail;refine(ae HP).mono ?_;rintro e x1 ⟨rfl,r1,k1⟩;have HK:=af (a0b r1 k1);clear r1 k1 HP;go_wp2_with fail;refine(ci _).mono ?_;rintro e x2 ⟨rfl,hx2⟩;rw[hx2];clear hx2 x2;go_wp2
  go_end0
  exact⟨(ae HK).2,rfl,(ae HK).1⟩
 · rw[a0e hc];rw[a0p hc]at HP;clear h hs hp hc;go_enter Tryz.func251,Tryz.ntmps251;go_wp2_with fail;refine(ae HP).mono ?_;rintro e x1 ⟨rfl,r1,k1⟩;have HK:=af k1;clear r1 k1 HP;go_wp2_with fail;refine(dP _).mono ?_;rintro e x2 ⟨rfl,hx2⟩;rw[hx2];clear hx2 x2;exact⟨rfl,ae HK,rfl⟩
set_option maxRecDepth 100000 in
theorem rG(L G M b p k:Nat)(s:ByteArray)(w:World)(h:Rdr w b s p)(hs:s.size<=2000000)(hL:L<=3)(hG:1<=G)(hG4:G<=4)(hM:M<=30)(hMG:∀k,k<M->k/G<=15)(hk:k<=1000) :
  Calls Tryz.prog 287 #[.pointer (some ⟨b,0,none⟩),.agg #[.int .i64 (L:Nat),.int .i64 (G:Nat),.int .i64 (M:Nat)],.int .i64 (k:Nat)] w (gK w b s (scG (au s) (8*s.size) L G M k p)):=by
 have hbl:=h.lt;have hA:ax b w (w.alloc (.cells #[.int .i64 (L:Nat),.int .i64 (G:Nat),.int .i64 (M:Nat)] 291)):=(ax.refl b w).alloc hbl _;have hbA:(w.alloc (.cells #[.int .i64 (L:Nat),.int .i64 (G:Nat),.int .i64 (M:Nat)] 291)).heap[w.heap.size]?=some (Obj.cells #[.int .i64 (L:Nat),.int .i64 (G:Nat),.int .i64 (M:Nat)] 291):=alloc_at _ _;have hrA:=h.alloc (.cells #[.int .i64 (L:Nat),.int .i64 (G:Nat),.int .i64 (M:Nat)] 291);have HS:=af hs;unfold gK scG;by_cases hc:k<M
 ·
  rw[a0d hc];have hcI':(k:Int)<(M:Int):=by omega
  have hbd:=vf hL hG hG4 (hMG k hc);have HSt:=af (fun W=>xU L G M k W hL hG hG4 (hMG k hc) (by omega));obtain⟨c0,c1,c2,_⟩:=wF hbA;have HX:=af (a0b hA hrA);clear h hs hL hG hG4 hM hMG hk hc hA hrA hbA;generalize hE:stF L G k=E at *
  clear hE;obtain⟨E1,E2⟩:=E;simp only at hbd HSt ⊢;rcases hN:rdN (au s) (8*s.size) p E2 with _|⟨x,q⟩
  · simp only[a1Y];have HNe:=af hN;clear hN;go_enter Tryz.func287,Tryz.ntmps287;go_wp2_with fail;refine(ci _).mono ?_;rintro e x2 ⟨rfl,hx2⟩;rw[hx2];clear hx2 x2;go_wp2_with fail;refine(ae HSt _).mono ?_;rintro e x2 ⟨rfl,b2⟩;have hk2:=(ae HX).1.later b2 (ae HX).2.lt;have hr2:=(ae HX).2.kept (b2.mono (ae HX).2.lt);have HN:=af (bu b p E2 s x2 hr2 (ae HS) (by omega));unfold gK at HN;rw[ae HNe]at HN;have HK:=af hk2;clear b2 hk2 hr2 HX HSt c0 c1 c2 HNe;go_wp2_with fail;refine(ae HN).mono ?_;rintro e x3 ⟨k3,rfl⟩;exact⟨rfl,(ae HK).trans k3,rfl⟩
  ·
   simp only[a0g];have HNe:=af hN;have hxb:=(bq hN).2.2.2;have hxI:(x:Int)<65536:=by
    have h1:2 ^ E2<=2 ^ 16:=a0Y (by omega) (by omega);omega
   clear hN hxb;go_enter Tryz.func287,Tryz.ntmps287;go_wp2_with fail;refine(ci _).mono ?_;rintro e x2 ⟨rfl,hx2⟩;rw[hx2];clear hx2 x2;go_wp2_with fail;refine(ae HSt _).mono ?_;rintro e x2 ⟨rfl,b2⟩;have hk2:=(ae HX).1.later b2 (ae HX).2.lt;have hr2:=(ae HX).2.kept (b2.mono (ae HX).2.lt);have HN:=af (bu b p E2 s x2 hr2 (ae HS) (by omega));unfold gK at HN;rw[ae HNe]at HN;have HK:=af hk2;clear b2 hk2 hr2 HX HSt c0 c1 c2 HNe;go_wp2_with fail;refine(ae HN).mono ?_;rintro e x3 ⟨k3,rfl,r3⟩;have HY:=af (a0b ((ae HK).trans k3) r3);clear k3 r3 HN HK;go_wp2;go_ret;exact⟨(ae HY).1,aQ (by simp),(ae HY).2⟩
 ·
  rw[a0e hc];have hcI':¬ (k:Int)<(M:Int):=by omega
  have HK:=af hA;clear h hs hL hG hG4 hM hMG hk hc hA hrA hbA;go_enter Tryz.func287,Tryz.ntmps287;go_wp2_with fail;refine(dP _).mono ?_;rintro e x2 ⟨rfl,hx2⟩;rw[hx2];clear hx2 x2;exact⟨rfl,ae HK,rfl⟩
theorem Je(n:Nat)(h:n<=65535):n ^^^ 65535=65535-n:=by
 apply Nat.eq_of_testBit_eq;intro i;have e1:(65535:Nat)=2 ^ 16-1:=rfl;have e2:65535-n=2 ^ 16-(n+1):=by omega
 rw[e2,Nat.testBit_two_pow_sub_succ (by omega),Nat.testBit_xor,e1,Nat.testBit_two_pow_sub_one];by_cases hi:i<16
 · simp[hi]
 · have:n.testBit i=false:=Nat.testBit_lt_two_pow (a0k (by omega) (a0Y (by omega) (Nat.le_of_not_lt hi)));simp[hi,this]
def gP(V sz:Nat):Nat->Nat->List UInt8->Option (List UInt8×Nat)
 | 0,p,T=>some (T,p)
 | n+1,p,T=>(rdN V sz p 8).bind fun x=>(dE T ((x.1:Nat),0,0)).bind fun T'=>gP V sz n x.2 T'
def hH(V sz p:Nat)(T:List UInt8):Option (List UInt8×Nat):=
 (iS V p).bind fun q=>(rdN V sz q 16).bind fun a=>(rdN V sz a.2 16).bind fun c=>if c.1=65535-a.1 then gP V sz a.1 c.2 T else none
theorem Ci{V sz:Nat} : ∀(n p:Nat) (T T':List UInt8) (q:Nat),gP V sz n p T=some (T',q)->p<=sz->q<=sz/\p<=q/\(T.length<=300->T'.length<=300):=by
 intro n;induction n with
 | zero=>
  intro p T T' q h hp;simp only[gP,a0j,a0O]at h;obtain⟨rfl,rfl⟩:=h;exact⟨hp,a0a _,id⟩
 | succ n ih=>
  intro p T T' q h hp;simp only[gP]at h;rcases h1:rdN V sz p 8 with _|⟨x,r⟩
  · rw[h1]at h;cases h
  ·
   rw[h1]at h;simp only[a0g]at h;have b1:=bq h1;rcases h2:dE T ((x:Nat),0,0)with _|T2
   · rw[h2]at h;cases h
   · rw[h2]at h;simp only[a0g]at h;obtain⟨a1,a2,a3⟩:=ih r T2 T' q h b1.1;exact⟨a1,by omega,fun _=>a3 (my h2)⟩
theorem xJ{V p q:Nat}(h:iS V p=some q):p<=q/\q=p+(8-p%8)%8:=by
 unfold iS at h
 split at h
 · simp only[a0j]at h;omega
 · cases h
theorem tF{V sz p q:Nat}{T T':List UInt8}(h:hH V sz p T=some (T',q)):q<=sz/\p<=q/\(T.length<=300->T'.length<=300):=by
 unfold hH at h;rcases h1:iS V p with _|r
 · rw[h1]at h;cases h
 rw[h1]at h;simp only[a0g]at h;rcases h2:rdN V sz r 16 with _|⟨a,r2⟩
 · rw[h2]at h;cases h
 rw[h2]at h;simp only[a0g]at h;rcases h3:rdN V sz r2 16 with _|⟨c,r3⟩
 · rw[h3]at h;cases h
 rw[h3]at h;simp only[a0g]at h
 split at h
 · have b1:=xJ h1;have b2:=bq h2;have b3:=bq h3;obtain⟨a1,a2,a3⟩:=Ci _ _ _ _ _ h b3.1;exact⟨a1,by omega,a3⟩
 · cases h
def lbG(V sz:Nat):List Nat->Nat->List Int->Option (List Int×Nat)
 | [],p,l=>some (l,p)
 | i :: is,p,l=>(rdN V sz p 3).bind fun x=>lbG V sz is x.2 (l.set i ((x.1:Nat):Int))
def iG(V sz many p:Nat):Option (List Int×Nat):=(lbG V sz (bv.take many) p (List.replicate 19 0)).bind fun x=>if ap x.1=true then some x else none
theorem LE{V sz:Nat} : ∀(is:List Nat) (p:Nat) (l l':List Int) (q:Nat),lbG V sz is p l=some (l',q)->p<=sz->q<=sz/\p<=q/\l'.length=l.length:=by
 intro is;induction is with
 | nil=>
  intro p l l' q h hp;simp only[lbG,a0j,a0O]at h;obtain⟨rfl,rfl⟩:=h;exact⟨hp,a0a _,rfl⟩
 | cons i is ih=>
  intro p l l' q h hp;simp only[lbG]at h;rcases h1:rdN V sz p 3 with _|⟨x,r⟩
  · rw[h1]at h;cases h
  · rw[h1]at h;simp only[a0g]at h;have b1:=bq h1;obtain⟨a1,a2,a3⟩:=ih _ _ _ _ h b1.1;exact⟨a1,by omega,by rw[a3,a1H]⟩
theorem tj{V sz many p q:Nat}{l:List Int}(h:iG V sz many p=some (l,q))(hp:p<=sz):q<=sz/\p<=q/\ap l=true/\l.length=19:=by
 unfold iG at h;rcases h1:lbG V sz (bv.take many) p (List.replicate 19 0)with _|⟨l1,q1⟩
 · rw[h1]at h;cases h
 ·
  rw[h1]at h;simp only[a0g]at h
  split at h
  · simp only[a0j,a0O]at h;obtain⟨rfl,rfl⟩:=h;obtain⟨a1,a2,a3⟩:=LE _ _ _ _ _ h1 hp;exact⟨a1,a2,by assumption,by rw[a3];simp⟩
  · cases h
def fR(V sz:Nat)(A:List Int)(k:Int)(q:Nat):Option (List Int×Nat):=
 if k=16 then(if A.length=0 then none else(rdN V sz q 2).bind fun x=>some (A++List.replicate (3+x.1) (A.getD (A.length-1) 0),x.2))
 else if k=17 then(rdN V sz q 3).bind fun x=>some (A++List.replicate (3+x.1) 0,x.2)
 else if k=18 then(rdN V sz q 7).bind fun x=>some (A++List.replicate (11+x.1) 0,x.2)
 else some (A++[k],q)
def lnF(V sz:Nat)(B:List Int)(n:Nat):Nat->Nat->List Int->Option (List Int×Nat)
 | 0,_,_=>none
 | f+1,p,A=>if A.length<n then(dec B V sz p).bind fun k=>(fR V sz A k.1 k.2).bind fun x=>lnF V sz B n f x.2 x.1
  else if A.length=n then some (A,p)else none
def lnG(V sz:Nat)(B:List Int)(n p:Nat)(A:List Int):Option (List Int×Nat):=lnF V sz B n (sz+1-p) p A
theorem pY{V sz:Nat}{A A':List Int}{k:Int}{q r:Nat}(h:fR V sz A k q=some (A',r))(hq:q<=sz):r<=sz/\q<=r/\A.length<A'.length/\A'.length<=A.length+138:=by
 unfold fR at h;have key:∀(bt c:Nat) (v:Int),bt<=7->c<=11->3<=c->(rdN V sz q bt).bind (fun x=>some (A++List.replicate (c+x.1) v,x.2))=some (A',r)->r<=sz/\q<=r/\A.length<A'.length/\A'.length<=A.length+138:=by
  intro bt c v hbt hc hc3 h;rcases h1:rdN V sz q bt with _|⟨x,t⟩
  · rw[h1]at h;cases h
  · rw[h1]at h;simp only[a0g,a0j,a0O]at h;obtain⟨rfl,rfl⟩:=h;have b1:=bq h1;have b2:2 ^ bt<=2 ^ 7:=a0Y (by omega) hbt;refine⟨b1.1,by omega,?_,?_⟩<;>simp only[a0l,a0E]<;>omega
 split at h
 ·
  split at h
  · cases h
  · exact key 2 3 _ (by omega) (by omega) (by omega) h
 ·
  split at h
  · exact key 3 3 _ (by omega) (by omega) (by omega) h
  ·
   split at h
   · exact key 7 11 _ (by omega) (by omega) (by omega) h
   · simp only[a0j,a0O]at h;obtain⟨rfl,rfl⟩:=h;exact⟨hq,a0a _,by simp,by simp⟩
theorem Gt{V sz:Nat}{B:List Int}{n:Nat} : ∀(m f p:Nat) (A:List Int),sz+1-p<=m->sz+1-p<=f->p<=sz->lnF V sz B n f p A=lnF V sz B n (sz+1-p) p A:=by
 intro m;induction m with
 | zero=>intro f p A h1 h2 h3;omega
 | succ m ih=>
  intro f p A h1 h2 h3;obtain⟨f',rfl⟩:∃g,f=g+1:=⟨f-1,by omega⟩;obtain⟨m',hm⟩:∃g,sz+1-p=g+1:=⟨sz-p,by omega⟩;rw[hm];simp only[lnF]
  split
  ·
   rcases hd:dec B V sz p with _|⟨i,q⟩
   · rfl
   ·
    have hb:=fw hd;simp only[a0g];rcases ha:fR V sz A i q with _|⟨A',r⟩
    · rfl
    · have hr:=pY ha hb.1;simp only[a0g];rw[ih f' r A' (by omega) (by omega) hr.1,ih m' r A' (by omega) (by omega) hr.1]
  · rfl
theorem wT{V sz:Nat}{B:List Int}{n p:Nat}{A:List Int}(hp:p<=sz)(h:A.length<n):lnG V sz B n p A=(dec B V sz p).bind fun k=>(fR V sz A k.1 k.2).bind fun x=>lnG V sz B n x.2 x.1:=by
 unfold lnG;obtain⟨m,hm⟩:∃g,sz+1-p=g+1:=⟨sz-p,by omega⟩;rw[hm];simp only[lnF,a0d h];rcases hd:dec B V sz p with _|⟨i,q⟩
 · rfl
 ·
  have hb:=fw hd;simp only[a0g];rcases ha:fR V sz A i q with _|⟨A',r⟩
  · rfl
  · have hr:=pY ha hb.1;simp only[a0g];exact Gt m m r A' (by omega) (by omega) hr.1
theorem wU{V sz:Nat}{B:List Int}{n p:Nat}{A:List Int}(hp:p<=sz)(h:¬ A.length<n):lnG V sz B n p A=if A.length=n then some (A,p)else none:=by
 unfold lnG;obtain⟨m,hm⟩:∃g,sz+1-p=g+1:=⟨sz-p,by omega⟩;rw[hm];simp only[lnF,a0e h]
theorem LH{V sz:Nat}{B:List Int}{n:Nat} : ∀(f p:Nat) (A A':List Int) (q:Nat),lnF V sz B n f p A=some (A',q)->p<=sz->q<=sz/\p<=q/\A'.length=n:=by
 intro f;induction f with
 | zero=>intro p A A' q h;simp[lnF]at h
 | succ f ih=>
  intro p A A' q h hp;simp only[lnF]at h
  split at h
  ·
   rcases hd:dec B V sz p with _|⟨i,r⟩
   · rw[hd]at h;cases h
   ·
    rw[hd]at h;have hb:=fw hd;simp only[a0g]at h;rcases ha:fR V sz A i r with _|⟨A2,r2⟩
    · rw[ha]at h;cases h
    · rw[ha]at h;have hr:=pY ha hb.1;simp only[a0g]at h;obtain⟨h1,h2,h3⟩:=ih _ _ _ _ h hr.1;exact⟨h1,by omega,h3⟩
  ·
   split at h
   · simp only[a0j,a0O]at h;obtain⟨rfl,rfl⟩:=h;exact⟨hp,a0a _,by assumption⟩
   · cases h
theorem Gu{V sz:Nat}{B:List Int}{n p q:Nat}{A A':List Int}(h:lnG V sz B n p A=some (A',q))(hp:p<=sz):q<=sz/\p<=q/\A'.length=n:=LH _ _ _ _ _ h hp
def qe(V sz n:Nat)(A:List Int)(p:Nat)(T:List UInt8):Option (List UInt8×Nat):=
 if ap (A.take n)=true then(if ap (A.drop n)=true then ju V sz (A.take n) (A.drop n) p T else none)else none
def rm(V sz p:Nat)(T:List UInt8):Option (List UInt8×Nat):=
 (rdN V sz p 5).bind fun a=>(rdN V sz a.2 5).bind fun c=>if a.1+257<=286/\c.1+1<=30 then
  (rdN V sz c.2 4).bind fun m=>(iG V sz (m.1+4) m.2).bind fun B=>(lnG V sz B.1 (a.1+257+(c.1+1)) B.2 []).bind fun A=>qe V sz (a.1+257) A.1 A.2 T else none
def zg(V sz p:Nat)(T:List UInt8):Option (List UInt8×Nat):=ju V sz (dj 288) (List.replicate 32 5) p T
def fq(V sz k p:Nat)(T:List UInt8):Option (List UInt8×Nat):=
 if k=0 then hH V sz p T else if k=1 then zg V sz p T else if k=2 then rm V sz p T else none
theorem Ce{V sz n p q:Nat}{A:List Int}{T T':List UInt8}(h:qe V sz n A p T=some (T',q)):q<=sz/\p<q/\(T.length<=300->T'.length<=300):=by
 unfold qe at h
 split at h
 ·
  split at h
  · exact vh h
  · cases h
 · cases h
theorem BB{V sz p q:Nat}{T T':List UInt8}(h:rm V sz p T=some (T',q)):q<=sz/\p<=q/\(T.length<=300->T'.length<=300):=by
 unfold rm at h;rcases h1:rdN V sz p 5 with _|⟨a,q1⟩
 · rw[h1]at h;cases h
 rw[h1]at h;simp only[a0g]at h;rcases h2:rdN V sz q1 5 with _|⟨c,q2⟩
 · rw[h2]at h;cases h
 rw[h2]at h;simp only[a0g]at h
 split at h
 ·
  rcases h3:rdN V sz q2 4 with _|⟨m,q3⟩
  · rw[h3]at h;cases h
  rw[h3]at h;simp only[a0g]at h;rcases h4:iG V sz (m+4) q3 with _|⟨B,q4⟩
  · rw[h4]at h;cases h
  rw[h4]at h;simp only[a0g]at h;rcases h5:lnG V sz B (a+257+(c+1)) q4 []with _|⟨A,q5⟩
  · rw[h5]at h;cases h
  rw[h5]at h;simp only[a0g]at h;have b1:=bq h1;have b2:=bq h2;have b3:=bq h3;have b4:=tj h4 b3.1;have b5:=Gu h5 b4.1;have b6:=Ce h;exact⟨b6.1,by omega,b6.2.2⟩
 · cases h
theorem qJ{V sz k p q:Nat}{T T':List UInt8}(h:fq V sz k p T=some (T',q)):q<=sz/\p<=q/\(T.length<=300->T'.length<=300):=by
 unfold fq at h
 split at h
 · exact tF h
 ·
  split at h
  · have:=vh h;exact⟨this.1,by omega,this.2.2⟩
  ·
   split at h
   · exact BB h
   · cases h
def fE(V sz:Nat):Nat->Nat->List UInt8->Option (List UInt8×Nat)
 | 0,_,_=>none
 | f+1,p,T=>(rdN V sz p 1).bind fun a=>(rdN V sz a.2 2).bind fun k=>(fq V sz k.1 k.2 T).bind fun r=>if a.1=1 then some r else fE V sz f r.2 r.1
def ge(V sz p:Nat)(T:List UInt8):Option (List UInt8×Nat):=fE V sz (sz+1-p) p T
def jz(V sz p:Nat)(T:List UInt8):Option (List UInt8×Nat):=(ge V sz p T).bind fun r=>(iS V r.2).bind fun q=>some (r.1,q)
theorem xF{V sz:Nat} : ∀(n f p:Nat) (T:List UInt8),sz+1-p<=n->sz+1-p<=f->fE V sz f p T=fE V sz (sz+1-p) p T:=by
 intro n;induction n with
 | zero=>
  intro f p T h1 h2;have e:sz+1-p=0:=by omega
  rw[e];cases f with
  | zero=>rfl
  | succ f=>
   have hd:rdN V sz p 1=none:=ox (by omega);simp only[fE,hd,a1Y]
 | succ n ih=>
  intro f p T h1 h2;rcases hd:rdN V sz p 1 with _|⟨a,q⟩
  ·
   cases f with
   | zero=>rw[show sz+1-p=0 by omega]
   | succ f=>
    rcases hm:sz+1-p with _|m
    · simp only[fE,hd,a1Y]
    · simp only[fE,hd,a1Y]
  ·
   have hb:=bq hd;obtain⟨f',rfl⟩:∃g,f=g+1:=⟨f-1,by omega⟩;obtain⟨m,hm⟩:∃g,sz+1-p=g+1:=⟨sz-p,by omega⟩;rw[hm];simp only[fE,hd,a0g];rcases hk:rdN V sz q 2 with _|⟨k,q2⟩
   · rfl
   ·
    have hb2:=bq hk;simp only[a0g];rcases hr:fq V sz k q2 T with _|⟨T',q3⟩
    · rfl
    ·
     have hb3:=qJ hr;simp only[a0g]
     split
     · rfl
     · rw[ih f' q3 T' (by omega) (by omega),ih m q3 T' (by omega) (by omega)]
theorem oZ{V sz p:Nat}{T:List UInt8} : ge V sz p T=(rdN V sz p 1).bind fun a=>(rdN V sz a.2 2).bind fun k=>(fq V sz k.1 k.2 T).bind fun r=>if a.1=1 then some r else ge V sz r.2 r.1:=by
 rcases hd:rdN V sz p 1 with _|⟨a,q⟩
 ·
  unfold ge;rcases hm:sz+1-p with _|m
  · rfl
  · simp only[fE,hd,a1Y]
 ·
  have hb:=bq hd;unfold ge;obtain⟨m,hm⟩:∃g,sz+1-p=g+1:=⟨sz-p,by omega⟩;rw[hm];simp only[fE,hd,a0g];rcases hk:rdN V sz q 2 with _|⟨k,q2⟩
  · rfl
  ·
   have hb2:=bq hk;simp only[a0g];rcases hr:fq V sz k q2 T with _|⟨T',q3⟩
   · rfl
   ·
    have hb3:=qJ hr;simp only[a0g]
    split
    · rfl
    · exact xF m m q3 T' (by omega) (by omega)
theorem DU{V sz:Nat} : ∀(f p:Nat) (T T':List UInt8) (q:Nat),fE V sz f p T=some (T',q)->q<=sz/\p<q/\(T.length<=300->T'.length<=300):=by
 intro f;induction f with
 | zero=>intro p T T' q h;simp[fE]at h
 | succ f ih=>
  intro p T T' q h;simp only[fE]at h;rcases hd:rdN V sz p 1 with _|⟨a,q1⟩
  · rw[hd]at h;cases h
  rw[hd]at h;simp only[a0g]at h;rcases hk:rdN V sz q1 2 with _|⟨k,q2⟩
  · rw[hk]at h;cases h
  rw[hk]at h;simp only[a0g]at h;rcases hr:fq V sz k q2 T with _|⟨T2,q3⟩
  · rw[hr]at h;cases h
  rw[hr]at h;simp only[a0g]at h;have b1:=bq hd;have b2:=bq hk;have b3:=qJ hr
  split at h
  · simp only[a0j,a0O]at h;obtain⟨rfl,rfl⟩:=h;exact⟨b3.1,by omega,b3.2.2⟩
  · have b4:=ih _ _ _ _ h;exact⟨b4.1,by omega,fun h=>b4.2.2 (b3.2.2 h)⟩
theorem DV{V sz p q:Nat}{T T':List UInt8}(h:ge V sz p T=some (T',q)):q<=sz/\p<q/\(T.length<=300->T'.length<=300):=DU _ _ _ _ _ h
end Go.Proofs.YtkdlcomfpffhhaaGreatDoor
