/- Of what the proof is made: 5 texts, one behind the other. -/
import Derived.Test.YtbacpebljannfaaGreatDoorM19
import Derived.Test.YtbacpebljannfaaGreatDoorM18
import Derived.Test.YtbacpebljannfaaGreatDoorM7
import Derived.Test.YtbacpebljannfaaGreatDoorM15
import Derived.WalkLawsBesides
import Derived.Test.YtbacpebljannfaaGreatDoorM3
set_option linter.unusedSimpArgs false
set_option maxHeartbeats 1600000
namespace Go.Proofs.YtbacpebljannfaaGreatDoor
open Go.RowKit Corb
def gt:Ending:=.panicked [{ v:=.iface 210 (.agg #[]),recovered:=false }]
theorem bU(w:World):Calls Tryz.prog 193 #[.bool true] w fun e w'=>e = .returned (.tuple #[])/\w'=w:=by
 go_enter Tryz.func193,Tryz.ntmps193;go_wp2
 go_end0
 exact⟨rfl,rfl⟩
theorem dr(w:World):Calls Tryz.prog 193 #[.bool false] w fun e w'=>e=gt/\w'=w:=by
 go_enter Tryz.func193,Tryz.ntmps193;go_wp2;exact⟨rfl,rfl,rfl⟩
def gZ(w:World)(b:Nat)(s:ByteArray)(d:Option (Nat×Nat))(e:Ending)(w':World):Prop:=
 aB b w w'/\match d with
  | none=>e=gt
  | some (x,q)=>e = .returned (.int .i64 (x:Nat))/\Rdr w' b s q
theorem bV(b p k:Nat)(s:ByteArray)(w:World)(h:Rdr w b s p)(hs:s.size<=2000000)(hk:k<=16) :
  Calls Tryz.prog 192 #[.pointer (some ⟨b,0,none⟩),.int .i64 (k:Int)] w (gZ w b s (rdN (ap s) (8*s.size) p k)):=by
 have HP:=af (rG b p k 0 s w h hs hk);unfold gZ;by_cases hc:p+k<=8*s.size
 · rw[Gp hc];have hd:decide (8*s.size<p+k)=false:=a0r (by omega);have Hd:=af hd;clear h hs hk hc hd;go_enter Tryz.func192,Tryz.ntmps192;go_wp2_with fail;refine(ae HP).mono ?_;rintro e x1 ⟨rfl,r1,k1⟩;have r2:=r1;unfold Rdr at r2;rw[ae Hd]at r2;obtain⟨q0,q1,q2,_⟩:=r2;have HK:=af (a0b r1 k1);clear r1 k1 HP q0 q1;go_wp2_with fail;refine(bU _).mono ?_;rintro e x2 ⟨rfl,hx2⟩;rw[hx2];clear hx2 x2;go_wp2;go_ret;exact⟨(ae HK).2,rfl,(ae HK).1⟩
 · rw[EH hc];have hd:decide (8*s.size<p+k)=true:=a0s (by omega);have Hd:=af hd;clear h hs hk hc hd;go_enter Tryz.func192,Tryz.ntmps192;go_wp2_with fail;refine(ae HP).mono ?_;rintro e x1 ⟨rfl,r1,k1⟩;have r2:=r1;unfold Rdr at r2;rw[ae Hd]at r2;obtain⟨q0,q1,q2,_⟩:=r2;have HK:=af k1;clear r1 k1 HP q0 q1;go_wp2_with fail;refine(dr _).mono ?_;rintro e x2 ⟨rfl,hx2⟩;rw[hx2];clear hx2 x2;exact⟨rfl,ae HK,rfl⟩
theorem aB.later{b:Nat}{w w1 w2:World}(h:aB b w w1)(hb:Below w1.heap.size w1 w2)(hbw:b<w1.heap.size):aB b w w2:=
 ⟨h.1.trans (hb.mono (a0k hbw)),fun j hj hne=>(hb.block j (a0f hj h.1.size)).trans (h.2 j hj hne),fun j hj=>⟨(hb.cell (p:=⟨b,j,none⟩) hbw).trans (h.3 j hj).1,(hb.frozen (p:=⟨b,j,none⟩) hbw).trans (h.3 j hj).2⟩⟩
def ml(V p:Nat):Option Nat:=if V/2 ^ p%2 ^ ((8-p%8)%8)=0 then some (p+(8-p%8)%8)else none
theorem mr(b p:Nat)(s:ByteArray)(w:World)(h:Rdr w b s p)(hs:s.size<=2000000)(hp:p<=8*s.size) :
  Calls Tryz.prog 194 #[.pointer (some ⟨b,0,none⟩)] w fun e w'=>aB b w w'/\match ml (ap s) p with
   | none=>e=gt
   | some q=>e = .returned (.tuple #[])/\Rdr w' b s q:=by
 have HP:=af (py b p s w h hs hp);unfold ml;by_cases hc:ap s/2 ^ p%2 ^ ((8-p%8)%8)=0
 ·
  rw[a0d hc];rw[a0s hc]at HP;clear h hs hp hc;go_enter Tryz.func194,Tryz.ntmps194;go_wp2_with fail;refine(ae HP).mono ?_;rintro e x1 ⟨rfl,r1,k1⟩;have HK:=af (a0b r1 k1);clear r1 k1 HP;go_wp2_with fail;refine(bU _).mono ?_;rintro e x2 ⟨rfl,hx2⟩;rw[hx2];clear hx2 x2;go_wp2
  go_end0
  exact⟨(ae HK).2,rfl,(ae HK).1⟩
 · rw[a0e hc];rw[a0r hc]at HP;clear h hs hp hc;go_enter Tryz.func194,Tryz.ntmps194;go_wp2_with fail;refine(ae HP).mono ?_;rintro e x1 ⟨rfl,r1,k1⟩;have HK:=af k1;clear r1 k1 HP;go_wp2_with fail;refine(dr _).mono ?_;rintro e x2 ⟨rfl,hx2⟩;rw[hx2];clear hx2 x2;exact⟨rfl,ae HK,rfl⟩
set_option maxRecDepth 100000 in
theorem rJ(L G M b p k:Nat)(s:ByteArray)(w:World)(h:Rdr w b s p)(hs:s.size<=2000000)(hL:L<=3)(hG:1<=G)(hG4:G<=4)(hM:M<=30)(hMG:∀k,k<M->k/G<=15)(hk:k<=1000) :
  Calls Tryz.prog 228 #[.pointer (some ⟨b,0,none⟩),.agg #[.int .i64 (L:Nat),.int .i64 (G:Nat),.int .i64 (M:Nat)],.int .i64 (k:Nat)] w (gZ w b s (scG (ap s) (8*s.size) L G M k p)):=by
 have hbl:=h.lt;have hA:aB b w (w.alloc (.cells #[.int .i64 (L:Nat),.int .i64 (G:Nat),.int .i64 (M:Nat)] 224)):=(aB.refl b w).alloc hbl _;have hbA:(w.alloc (.cells #[.int .i64 (L:Nat),.int .i64 (G:Nat),.int .i64 (M:Nat)] 224)).heap[w.heap.size]?=some (Obj.cells #[.int .i64 (L:Nat),.int .i64 (G:Nat),.int .i64 (M:Nat)] 224):=alloc_at _ _;have hrA:=h.alloc (.cells #[.int .i64 (L:Nat),.int .i64 (G:Nat),.int .i64 (M:Nat)] 224);have HS:=af hs;have MI:(M:Int)<=30:=by omega
 have kI:(k:Int)<=1000:=by omega
 unfold gZ scG;by_cases hc:k<M
 ·
  rw[a0d hc];have hcI:decide ((k:Int)<(M:Int))=true:=a0s (by omega);have hcI':(k:Int)<(M:Int):=by omega
  have hbd:=oW hL hG hG4 (hMG k hc);have HSt:=af (fun W=>wU L G M k W hL hG hG4 (hMG k hc) (by omega));obtain⟨c0,c1,c2,_⟩:=vN hbA;have HX:=af (a0b hA hrA);clear h hs hL hG hG4 hM hMG hk hc hA hrA hbA;generalize hE:stF L G k=E at *
  clear hE;obtain⟨E1,E2⟩:=E;simp only at hbd HSt ⊢;have e1I:(E1:Int)<=200000:=by omega
  have e2I:(E2:Int)<=14:=by omega
  rcases hN:rdN (ap s) (8*s.size) p E2 with _|⟨x,q⟩
  · simp only[a1G];have HNe:=af hN;clear hN;go_enter Tryz.func228,Tryz.ntmps228;go_wp2_with fail;refine(bU _).mono ?_;rintro e x2 ⟨rfl,hx2⟩;rw[hx2];clear hx2 x2;go_wp2_with fail;refine(ae HSt _).mono ?_;rintro e x2 ⟨rfl,b2⟩;have hk2:=(ae HX).1.later b2 (ae HX).2.lt;have hr2:=(ae HX).2.kept (b2.mono (ae HX).2.lt);have HN:=af (bV b p E2 s x2 hr2 (ae HS) (by omega));unfold gZ at HN;rw[ae HNe]at HN;have HK:=af hk2;clear b2 hk2 hr2 HX HSt c0 c1 c2 HNe;go_wp2_with fail;refine(ae HN).mono ?_;rintro e x3 ⟨k3,rfl⟩;exact⟨rfl,(ae HK).trans k3,rfl⟩
  ·
   simp only[a0g];have HNe:=af hN;have hxb:=(bH hN).2.2.2;have hxI:(x:Int)<65536:=by
    have h1:2 ^ E2<=2 ^ 16:=a0S (by omega) (by omega);have h2:(2:Nat) ^ 16=65536:=by decide
    omega
   clear hN hxb;go_enter Tryz.func228,Tryz.ntmps228;go_wp2_with fail;refine(bU _).mono ?_;rintro e x2 ⟨rfl,hx2⟩;rw[hx2];clear hx2 x2;go_wp2_with fail;refine(ae HSt _).mono ?_;rintro e x2 ⟨rfl,b2⟩;have hk2:=(ae HX).1.later b2 (ae HX).2.lt;have hr2:=(ae HX).2.kept (b2.mono (ae HX).2.lt);have HN:=af (bV b p E2 s x2 hr2 (ae HS) (by omega));unfold gZ at HN;rw[ae HNe]at HN;have HK:=af hk2;clear b2 hk2 hr2 HX HSt c0 c1 c2 HNe;go_wp2_with fail;refine(ae HN).mono ?_;rintro e x3 ⟨k3,rfl,r3⟩;have HY:=af (a0b ((ae HK).trans k3) r3);clear k3 r3 HN HK;go_wp2;go_ret;exact⟨(ae HY).1,aH (by simp),(ae HY).2⟩
 ·
  rw[a0e hc];have hcI:decide ((k:Int)<(M:Int))=false:=a0r (by omega);have hcI':¬ (k:Int)<(M:Int):=by omega
  have HK:=af hA;clear h hs hL hG hG4 hM hMG hk hc hA hrA hbA;go_enter Tryz.func228,Tryz.ntmps228;go_wp2_with fail;refine(dr _).mono ?_;rintro e x2 ⟨rfl,hx2⟩;rw[hx2];clear hx2 x2;exact⟨rfl,ae HK,rfl⟩
theorem FC(n:Nat)(h:n<=65535):n ^^^ 65535=65535-n:=by
 apply Nat.eq_of_testBit_eq;intro i;have e1:(65535:Nat)=2 ^ 16-1:=rfl;have e2:65535-n=2 ^ 16-(n+1):=by omega
 rw[e2,Nat.testBit_two_pow_sub_succ (by omega),Nat.testBit_xor,e1,Nat.testBit_two_pow_sub_one];by_cases hi:i<16
 · simp[hi]
 · have:n.testBit i=false:=Nat.testBit_lt_two_pow (a0f (by omega) (a0S (by omega) (Nat.le_of_not_lt hi)));simp[hi,this]
def kB(V sz:Nat):Nat->Nat->List UInt8->Option (List UInt8×Nat)
 | 0,p,T=>some (T,p)
 | n+1,p,T=>(rdN V sz p 8).bind fun x=>(eV T ((x.1:Nat),0,0)).bind fun T'=>kB V sz n x.2 T'
def jV(V sz p:Nat)(T:List UInt8):Option (List UInt8×Nat):=
 (ml V p).bind fun q=>(rdN V sz q 16).bind fun a=>(rdN V sz a.2 16).bind fun c=>if c.1=65535-a.1 then kB V sz a.1 c.2 T else none
theorem Ar{V sz:Nat} : ∀(n p:Nat) (T T':List UInt8) (q:Nat),kB V sz n p T=some (T',q)->p<=sz->q<=sz/\p<=q/\(T.length<=300->T'.length<=300):=by
 intro n;induction n with
 | zero=>
  intro p T T' q h hp;simp only[kB,a0n,a08]at h;obtain⟨rfl,rfl⟩:=h;exact⟨hp,a0a _,id⟩
 | succ n ih=>
  intro p T T' q h hp;simp only[kB]at h;rcases h1:rdN V sz p 8 with _|⟨x,r⟩
  · rw[h1]at h;cases h
  ·
   rw[h1]at h;simp only[a0g]at h;have b1:=bH h1;rcases h2:eV T ((x:Nat),0,0)with _|T2
   · rw[h2]at h;cases h
   · rw[h2]at h;simp only[a0g]at h;obtain⟨a1,a2,a3⟩:=ih r T2 T' q h b1.1;exact⟨a1,by omega,fun _=>a3 (nc h2)⟩
theorem wM{V p q:Nat}(h:ml V p=some q):p<=q/\q=p+(8-p%8)%8:=by
 unfold ml at h
 split at h
 · simp only[a0n]at h;omega
 · cases h
theorem tq{V sz p q:Nat}{T T':List UInt8}(h:jV V sz p T=some (T',q)):q<=sz/\p<=q/\(T.length<=300->T'.length<=300):=by
 unfold jV at h;rcases h1:ml V p with _|r
 · rw[h1]at h;cases h
 rw[h1]at h;simp only[a0g]at h;rcases h2:rdN V sz r 16 with _|⟨a,r2⟩
 · rw[h2]at h;cases h
 rw[h2]at h;simp only[a0g]at h;rcases h3:rdN V sz r2 16 with _|⟨c,r3⟩
 · rw[h3]at h;cases h
 rw[h3]at h;simp only[a0g]at h
 split at h
 · have b1:=wM h1;have b2:=bH h2;have b3:=bH h3;obtain⟨a1,a2,a3⟩:=Ar _ _ _ _ _ h b3.1;exact⟨a1,by omega,a3⟩
 · cases h
def lbG(V sz:Nat):List Nat->Nat->List Int->Option (List Int×Nat)
 | [],p,l=>some (l,p)
 | i :: is,p,l=>(rdN V sz p 3).bind fun x=>lbG V sz is x.2 (l.set i ((x.1:Nat):Int))
def mE(V sz many p:Nat):Option (List Int×Nat):=(lbG V sz (ct.take many) p (List.replicate 19 0)).bind fun x=>if aE x.1=true then some x else none
theorem G0{V sz:Nat} : ∀(is:List Nat) (p:Nat) (l l':List Int) (q:Nat),lbG V sz is p l=some (l',q)->p<=sz->q<=sz/\p<=q/\l'.length=l.length:=by
 intro is;induction is with
 | nil=>
  intro p l l' q h hp;simp only[lbG,a0n,a08]at h;obtain⟨rfl,rfl⟩:=h;exact⟨hp,a0a _,rfl⟩
 | cons i is ih=>
  intro p l l' q h hp;simp only[lbG]at h;rcases h1:rdN V sz p 3 with _|⟨x,r⟩
  · rw[h1]at h;cases h
  · rw[h1]at h;simp only[a0g]at h;have b1:=bH h1;obtain⟨a1,a2,a3⟩:=ih _ _ _ _ h b1.1;exact⟨a1,by omega,by rw[a3,a18]⟩
theorem sT{V sz many p q:Nat}{l:List Int}(h:mE V sz many p=some (l,q))(hp:p<=sz):q<=sz/\p<=q/\aE l=true/\l.length=19:=by
 unfold mE at h;rcases h1:lbG V sz (ct.take many) p (List.replicate 19 0)with _|⟨l1,q1⟩
 · rw[h1]at h;cases h
 ·
  rw[h1]at h;simp only[a0g]at h
  split at h
  · simp only[a0n,a08]at h;obtain⟨rfl,rfl⟩:=h;obtain⟨a1,a2,a3⟩:=G0 _ _ _ _ _ h1 hp;exact⟨a1,a2,by assumption,by rw[a3];simp⟩
  · cases h
def g9(V sz:Nat)(A:List Int)(k:Int)(q:Nat):Option (List Int×Nat):=
 if k=16 then(if A.length=0 then none else(rdN V sz q 2).bind fun x=>some (A++List.replicate (3+x.1) (A.getD (A.length-1) 0),x.2))
 else if k=17 then(rdN V sz q 3).bind fun x=>some (A++List.replicate (3+x.1) 0,x.2)
 else if k=18 then(rdN V sz q 7).bind fun x=>some (A++List.replicate (11+x.1) 0,x.2)
 else some (A++[k],q)
def lnF(V sz:Nat)(B:List Int)(n:Nat):Nat->Nat->List Int->Option (List Int×Nat)
 | 0,_,_=>none
 | f+1,p,A=>if A.length<n then(dec B V sz p).bind fun k=>(g9 V sz A k.1 k.2).bind fun x=>lnF V sz B n f x.2 x.1
  else if A.length=n then some (A,p)else none
def lnG(V sz:Nat)(B:List Int)(n p:Nat)(A:List Int):Option (List Int×Nat):=lnF V sz B n (sz+1-p) p A
theorem qn{V sz:Nat}{A A':List Int}{k:Int}{q r:Nat}(h:g9 V sz A k q=some (A',r))(hq:q<=sz):r<=sz/\q<=r/\A.length<A'.length/\A'.length<=A.length+138:=by
 unfold g9 at h;have key:∀(bt c:Nat) (v:Int),bt<=7->c<=11->3<=c->(rdN V sz q bt).bind (fun x=>some (A++List.replicate (c+x.1) v,x.2))=some (A',r)->r<=sz/\q<=r/\A.length<A'.length/\A'.length<=A.length+138:=by
  intro bt c v hbt hc hc3 h;rcases h1:rdN V sz q bt with _|⟨x,t⟩
  · rw[h1]at h;cases h
  ·
   rw[h1]at h;simp only[a0g,a0n,a08]at h;obtain⟨rfl,rfl⟩:=h;have b1:=bH h1;have b2:2 ^ bt<=2 ^ 7:=a0S (by omega) hbt;have b3:(2:Nat) ^ 7=128:=by decide
   refine⟨b1.1,by omega,?_,?_⟩<;>simp only[a0l,a0B]<;>omega
 split at h
 ·
  split at h
  · cases h
  · exact key 2 3 _ (by omega) (by omega) (by omega) h
 ·
  split at h
  · exact key 3 3 _ (by omega) (by omega) (by omega) h
  ·
   split at h
   · exact key 7 11 _ (by omega) (by omega) (by omega) h
   · simp only[a0n,a08]at h;obtain⟨rfl,rfl⟩:=h;exact⟨hq,a0a _,by simp,by simp⟩
theorem DT{V sz:Nat}{B:List Int}{n:Nat} : ∀(m f p:Nat) (A:List Int),sz+1-p<=m->sz+1-p<=f->p<=sz->lnF V sz B n f p A=lnF V sz B n (sz+1-p) p A:=by
 intro m;induction m with
 | zero=>intro f p A h1 h2 h3;omega
 | succ m ih=>
  intro f p A h1 h2 h3;obtain⟨f',rfl⟩:∃g,f=g+1:=⟨f-1,by omega⟩;obtain⟨m',hm⟩:∃g,sz+1-p=g+1:=⟨sz-p,by omega⟩;rw[hm];simp only[lnF]
  split
  ·
   rcases hd:dec B V sz p with _|⟨i,q⟩
   · rfl
   ·
    have hb:=fH hd;simp only[a0g];rcases ha:g9 V sz A i q with _|⟨A',r⟩
    · rfl
    · have hr:=qn ha hb.1;simp only[a0g];rw[ih f' r A' (by omega) (by omega) hr.1,ih m' r A' (by omega) (by omega) hr.1]
  · rfl
theorem DV{V sz:Nat}{B:List Int}{n p:Nat}{A:List Int}(hp:p<=sz)(h:A.length<n):lnG V sz B n p A=(dec B V sz p).bind fun k=>(g9 V sz A k.1 k.2).bind fun x=>lnG V sz B n x.2 x.1:=by
 unfold lnG;obtain⟨m,hm⟩:∃g,sz+1-p=g+1:=⟨sz-p,by omega⟩;rw[hm];simp only[lnF,a0d h];rcases hd:dec B V sz p with _|⟨i,q⟩
 · rfl
 ·
  have hb:=fH hd;simp only[a0g];rcases ha:g9 V sz A i q with _|⟨A',r⟩
  · rfl
  · have hr:=qn ha hb.1;simp only[a0g];exact DT m m r A' (by omega) (by omega) hr.1
theorem DW{V sz:Nat}{B:List Int}{n p:Nat}{A:List Int}(hp:p<=sz)(h:¬ A.length<n):lnG V sz B n p A=if A.length=n then some (A,p)else none:=by
 unfold lnG;obtain⟨m,hm⟩:∃g,sz+1-p=g+1:=⟨sz-p,by omega⟩;rw[hm];simp only[lnF,a0e h]
theorem G8{V sz:Nat}{B:List Int}{n:Nat} : ∀(f p:Nat) (A A':List Int) (q:Nat),lnF V sz B n f p A=some (A',q)->p<=sz->q<=sz/\p<=q/\A'.length=n:=by
 intro f;induction f with
 | zero=>intro p A A' q h;simp[lnF]at h
 | succ f ih=>
  intro p A A' q h hp;simp only[lnF]at h
  split at h
  ·
   rcases hd:dec B V sz p with _|⟨i,r⟩
   · rw[hd]at h;cases h
   ·
    rw[hd]at h;have hb:=fH hd;simp only[a0g]at h;rcases ha:g9 V sz A i r with _|⟨A2,r2⟩
    · rw[ha]at h;cases h
    · rw[ha]at h;have hr:=qn ha hb.1;simp only[a0g]at h;obtain⟨h1,h2,h3⟩:=ih _ _ _ _ h hr.1;exact⟨h1,by omega,h3⟩
  ·
   split at h
   · simp only[a0n,a08]at h;obtain⟨rfl,rfl⟩:=h;exact⟨hp,a0a _,by assumption⟩
   · cases h
theorem DU{V sz:Nat}{B:List Int}{n p q:Nat}{A A':List Int}(h:lnG V sz B n p A=some (A',q))(hp:p<=sz):q<=sz/\p<=q/\A'.length=n:=G8 _ _ _ _ _ h hp
def tL(V sz n:Nat)(A:List Int)(p:Nat)(T:List UInt8):Option (List UInt8×Nat):=
 if aE (A.take n)=true then(if aE (A.drop n)=true then l9 V sz (A.take n) (A.drop n) p T else none)else none
def uB(V sz p:Nat)(T:List UInt8):Option (List UInt8×Nat):=
 (rdN V sz p 5).bind fun a=>(rdN V sz a.2 5).bind fun c=>if a.1+257<=286/\c.1+1<=30 then
  (rdN V sz c.2 4).bind fun m=>(mE V sz (m.1+4) m.2).bind fun B=>(lnG V sz B.1 (a.1+257+(c.1+1)) B.2 []).bind fun A=>tL V sz (a.1+257) A.1 A.2 T else none
def AJ(V sz p:Nat)(T:List UInt8):Option (List UInt8×Nat):=l9 V sz (dj 288) (List.replicate 32 5) p T
def iC(V sz k p:Nat)(T:List UInt8):Option (List UInt8×Nat):=
 if k=0 then jV V sz p T else if k=1 then AJ V sz p T else if k=2 then uB V sz p T else none
theorem Ap{V sz n p q:Nat}{A:List Int}{T T':List UInt8}(h:tL V sz n A p T=some (T',q)):q<=sz/\p<q/\(T.length<=300->T'.length<=300):=by
 unfold tL at h
 split at h
 ·
  split at h
  · exact uJ h
  · cases h
 · cases h
theorem zQ{V sz p q:Nat}{T T':List UInt8}(h:uB V sz p T=some (T',q)):q<=sz/\p<=q/\(T.length<=300->T'.length<=300):=by
 unfold uB at h;rcases h1:rdN V sz p 5 with _|⟨a,q1⟩
 · rw[h1]at h;cases h
 rw[h1]at h;simp only[a0g]at h;rcases h2:rdN V sz q1 5 with _|⟨c,q2⟩
 · rw[h2]at h;cases h
 rw[h2]at h;simp only[a0g]at h
 split at h
 ·
  rcases h3:rdN V sz q2 4 with _|⟨m,q3⟩
  · rw[h3]at h;cases h
  rw[h3]at h;simp only[a0g]at h;rcases h4:mE V sz (m+4) q3 with _|⟨B,q4⟩
  · rw[h4]at h;cases h
  rw[h4]at h;simp only[a0g]at h;rcases h5:lnG V sz B (a+257+(c+1)) q4 []with _|⟨A,q5⟩
  · rw[h5]at h;cases h
  rw[h5]at h;simp only[a0g]at h;have b1:=bH h1;have b2:=bH h2;have b3:=bH h3;have b4:=sT h4 b3.1;have b5:=DU h5 b4.1;have b6:=Ap h;exact⟨b6.1,by omega,b6.2.2⟩
 · cases h
theorem qN{V sz k p q:Nat}{T T':List UInt8}(h:iC V sz k p T=some (T',q)):q<=sz/\p<=q/\(T.length<=300->T'.length<=300):=by
 unfold iC at h
 split at h
 · exact tq h
 ·
  split at h
  · have:=uJ h;exact⟨this.1,by omega,this.2.2⟩
  ·
   split at h
   · exact zQ h
   · cases h
def fS(V sz:Nat):Nat->Nat->List UInt8->Option (List UInt8×Nat)
 | 0,_,_=>none
 | f+1,p,T=>(rdN V sz p 1).bind fun a=>(rdN V sz a.2 2).bind fun k=>(iC V sz k.1 k.2 T).bind fun r=>if a.1=1 then some r else fS V sz f r.2 r.1
def jR(V sz p:Nat)(T:List UInt8):Option (List UInt8×Nat):=fS V sz (sz+1-p) p T
def lv(V sz p:Nat)(T:List UInt8):Option (List UInt8×Nat):=(jR V sz p T).bind fun r=>(ml V r.2).bind fun q=>some (r.1,q)
theorem wJ{V sz:Nat} : ∀(n f p:Nat) (T:List UInt8),sz+1-p<=n->sz+1-p<=f->fS V sz f p T=fS V sz (sz+1-p) p T:=by
 intro n;induction n with
 | zero=>
  intro f p T h1 h2;have e:sz+1-p=0:=by omega
  rw[e];cases f with
  | zero=>rfl
  | succ f=>
   have hd:rdN V sz p 1=none:=EH (by omega);simp only[fS,hd,a1G]
 | succ n ih=>
  intro f p T h1 h2;rcases hd:rdN V sz p 1 with _|⟨a,q⟩
  ·
   cases f with
   | zero=>rw[show sz+1-p=0 by omega]
   | succ f=>
    rcases hm:sz+1-p with _|m
    · simp only[fS,hd,a1G]
    · simp only[fS,hd,a1G]
  ·
   have hb:=bH hd;obtain⟨f',rfl⟩:∃g,f=g+1:=⟨f-1,by omega⟩;obtain⟨m,hm⟩:∃g,sz+1-p=g+1:=⟨sz-p,by omega⟩;rw[hm];simp only[fS,hd,a0g];rcases hk:rdN V sz q 2 with _|⟨k,q2⟩
   · rfl
   ·
    have hb2:=bH hk;simp only[a0g];rcases hr:iC V sz k q2 T with _|⟨T',q3⟩
    · rfl
    ·
     have hb3:=qN hr;simp only[a0g]
     split
     · rfl
     · rw[ih f' q3 T' (by omega) (by omega),ih m q3 T' (by omega) (by omega)]
theorem wK{V sz p:Nat}{T:List UInt8} : jR V sz p T=(rdN V sz p 1).bind fun a=>(rdN V sz a.2 2).bind fun k=>(iC V sz k.1 k.2 T).bind fun r=>if a.1=1 then some r else jR V sz r.2 r.1:=by
 rcases hd:rdN V sz p 1 with _|⟨a,q⟩
 ·
  unfold jR;rcases hm:sz+1-p with _|m
  · rfl
  · simp only[fS,hd,a1G]
 ·
  have hb:=bH hd;unfold jR;obtain⟨m,hm⟩:∃g,sz+1-p=g+1:=⟨sz-p,by omega⟩;rw[hm];simp only[fS,hd,a0g];rcases hk:rdN V sz q 2 with _|⟨k,q2⟩
  · rfl
  ·
   have hb2:=bH hk;simp only[a0g];rcases hr:iC V sz k q2 T with _|⟨T',q3⟩
   · rfl
   ·
    have hb3:=qN hr;simp only[a0g]
    split
    · rfl
    · exact wJ m m q3 T' (by omega) (by omega)
theorem BP{V sz:Nat} : ∀(f p:Nat) (T T':List UInt8) (q:Nat),fS V sz f p T=some (T',q)->q<=sz/\p<q/\(T.length<=300->T'.length<=300):=by
 intro f;induction f with
 | zero=>intro p T T' q h;simp[fS]at h
 | succ f ih=>
  intro p T T' q h;simp only[fS]at h;rcases hd:rdN V sz p 1 with _|⟨a,q1⟩
  · rw[hd]at h;cases h
  rw[hd]at h;simp only[a0g]at h;rcases hk:rdN V sz q1 2 with _|⟨k,q2⟩
  · rw[hk]at h;cases h
  rw[hk]at h;simp only[a0g]at h;rcases hr:iC V sz k q2 T with _|⟨T2,q3⟩
  · rw[hr]at h;cases h
  rw[hr]at h;simp only[a0g]at h;have b1:=bH hd;have b2:=bH hk;have b3:=qN hr
  split at h
  · simp only[a0n,a08]at h;obtain⟨rfl,rfl⟩:=h;exact⟨b3.1,by omega,b3.2.2⟩
  · have b4:=ih _ _ _ _ h;exact⟨b4.1,by omega,fun h=>b4.2.2 (b3.2.2 h)⟩
theorem BQ{V sz p q:Nat}{T T':List UInt8}(h:jR V sz p T=some (T',q)):q<=sz/\p<q/\(T.length<=300->T'.length<=300):=BP _ _ _ _ _ h
end Go.Proofs.YtbacpebljannfaaGreatDoor
