/- Of what the proof is made: 7 texts, one behind the other. -/
import Derived.Test.YtchidddpplangaaGreatDoorM22
import Derived.Test.YtchidddpplangaaGreatDoorM20
import Derived.Test.YtchidddpplangaaGreatDoorM9
import Derived.Test.YtchidddpplangaaGreatDoorM16
import Derived.WalkLawsBesides
import Derived.Test.YtchidddpplangaaGreatDoorM3
import Derived.Test.YtchidddpplangaaGreatDoorM19
set_option maxRecDepth 100000
set_option linter.unusedSimpArgs false
set_option linter.unusedVariables false
set_option maxHeartbeats 3200000
namespace Go.Proofs.YtchidddpplangaaGreatDoor
open Go.Proofs.Tryz
open Go.RowKit Corb
variable {A B:List Int}{T T':List UInt8}{V b n p q sz:Nat}{f:Bool}{s:ByteArray}{w:World}
def j6:Ending:=.panicked [{ v:=.iface 288 (.agg #[]),recovered:=false }]
theorem dh(w:World):Calls prog 230 #[.bool true] w fun e w'=>e = .returned (.tuple #[])/\w'=w:=by
 go_enter func230,ntmps230;go_wp2
 go_end0
 exact⟨rfl,rfl⟩
theorem fx(w:World):Calls prog 230 #[.bool false] w fun e w'=>e=j6/\w'=w:=by
 go_enter func230,ntmps230;go_wp2;exact⟨rfl,rfl,rfl⟩
def jm(w:World)(b:Nat)(s:ByteArray)(d:Option (Nat×Nat))(e:Ending)(w':World):Prop:=
 av b w w'/\match d with
  | none=>e=j6
  | some (x,q)=>e = .returned (.int .i64 (x:Nat))/\Rdr w' b s q
theorem cf(b p k:Nat)(s:ByteArray)(w:World)(h:Rdr w b s p)(m:s.size<=2000000)(l:k<=16) :
  Calls prog 229 #[.pointer (some ⟨b,0,none⟩),.int .i64 (k:Int)] w (jm w b s (rdN (aj s) (8*s.size) p k)):=by
 have HP:=ae (uF b p k 0 s w h m l);unfold jm;by_cases i:p+k<=8*s.size
 . rw[cR i];have hd:decide (8*s.size<p+k)=false:=a0h (by omega);have j:=ae hd;clear h m l i hd;go_enter func229,ntmps229;go_wp2_with fail;refine(ab HP).mono ?_;rintro e x1 ⟨rfl,d,f⟩;have c:=d;unfold Rdr at c;rw[ab j]at c;obtain⟨n,o,q,_⟩:=c;have g:=ae (a0b d f);clear d f HP n o;go_wp2_with fail;refine(dh _).mono ?_;rintro e x2 ⟨rfl,a⟩;rw[a];clear a x2;go_wp2;go_ret;exact⟨(ab g).2,rfl,(ab g).1⟩
 . rw[fi i];have hd:decide (8*s.size<p+k)=true:=a0v (by omega);have j:=ae hd;clear h m l i hd;go_enter func229,ntmps229;go_wp2_with fail;refine(ab HP).mono ?_;rintro e x1 ⟨rfl,d,f⟩;have c:=d;unfold Rdr at c;rw[ab j]at c;obtain⟨n,o,q,_⟩:=c;have g:=ae f;clear d f HP n o;go_wp2_with fail;refine(fx _).mono ?_;rintro e x2 ⟨rfl,a⟩;rw[a];clear a x2;exact⟨rfl,ab g,rfl⟩
theorem av.later{w1 w2:World}(h:av b w w1)(hb:Below w1.heap.size w1 w2)(a:b<w1.heap.size):av b w w2:=
 ⟨h.1.trans (hb.mono (a0z a)),fun j c d=>(hb.block j (a0m c h.1.size)).trans (h.2 j c d),fun j c=>⟨(hb.cell (p:=⟨b,j,none⟩) a).trans (h.3 j c).1,(hb.frozen (p:=⟨b,j,none⟩) a).trans (h.3 j c).2⟩⟩
def gz(V p:Nat):Option Nat:=if V/2 ^ p%2 ^ ((8-p%8)%8)=0 then some (p+(8-p%8)%8)else none
theorem nQ(b p:Nat)(s:ByteArray)(w:World)(h:Rdr w b s p)(j:s.size<=2000000)(i:p<=8*s.size) :
  Calls prog 231 #[.pointer (some ⟨b,0,none⟩)] w fun e w'=>av b w w'/\match gz (aj s) p with
   | none=>e=j6
   | some q=>e = .returned (.tuple #[])/\Rdr w' b s q:=by
 have HP:=ae (rF b p s w h j i);unfold gz;by_cases c:aj s/2 ^ p%2 ^ ((8-p%8)%8)=0
 .
  rw[a0e c];rw[a0v c]at HP;clear h j i c;go_enter func231,ntmps231;go_wp2_with fail;refine(ab HP).mono ?_;rintro e x1 ⟨rfl,g,d⟩;have f:=ae (a0b g d);clear g d HP;go_wp2_with fail;refine(dh _).mono ?_;rintro e x2 ⟨rfl,a⟩;rw[a];clear a x2;go_wp2
  go_end0
  exact⟨(ab f).2,rfl,(ab f).1⟩
 . rw[a0d c];rw[a0h c]at HP;clear h j i c;go_enter func231,ntmps231;go_wp2_with fail;refine(ab HP).mono ?_;rintro e x1 ⟨rfl,g,d⟩;have f:=ae d;clear g d HP;go_wp2_with fail;refine(fx _).mono ?_;rintro e x2 ⟨rfl,a⟩;rw[a];clear a x2;exact⟨rfl,ab f,rfl⟩
theorem uI(L G M b p k:Nat)(s:ByteArray)(w:World)(h:Rdr w b s p)(H:s.size<=2000000)(B:L<=3)(A:1<=G)(j:G<=4)(N:M<=30)(l:∀k,k<M->k/G<=15)(O:k<=1000) :
  Calls prog 251 #[.pointer (some ⟨b,0,none⟩),.agg #[.int .i64 (L:Nat),.int .i64 (G:Nat),.int .i64 (M:Nat)],.int .i64 (k:Nat)] w (jm w b s (scG (aj s) (8*s.size) L G M k p)):=by
 have F:=h.lt;have z:av b w (w.alloc (.cells #[.int .i64 (L:Nat),.int .i64 (G:Nat),.int .i64 (M:Nat)] 296)):=(av.refl b w).alloc F _;have o:(w.alloc (.cells #[.int .i64 (L:Nat),.int .i64 (G:Nat),.int .i64 (M:Nat)] 296)).heap[w.heap.size]?=some (Obj.cells #[.int .i64 (L:Nat),.int .i64 (G:Nat),.int .i64 (M:Nat)] 296):=alloc_at _ _;have r:=h.alloc (.cells #[.int .i64 (L:Nat),.int .i64 (G:Nat),.int .i64 (M:Nat)] 296);have J:=ae H;unfold jm scG;by_cases u:k<M
 .
  rw[a0e u];have y:(k:Int)<(M:Int):=by omega
  have D:=qO B A j (l k u);have d:=ae (fun W=>Br L G M k W B A j (l k u) (by omega));obtain⟨c0,c1,c2,_⟩:=oZ o;have i:=ae (a0b z r);clear h H B A j N l O u z r o;generalize Q:stF L G k=E at *
  clear Q;obtain⟨E1,E2⟩:=E;simp only at D d ⊢;rcases v:rdN (aj s) (8*s.size) p E2 with _|⟨x,q⟩
  . simp only[a15];have c:=ae v;clear v;go_enter func251,ntmps251;go_wp2_with fail;refine(dh _).mono ?_;rintro e x2 ⟨rfl,a⟩;rw[a];clear a x2;go_wp2_with fail;refine(ab d _).mono ?_;rintro e x2 ⟨rfl,n⟩;have f:=(ab i).1.later n (ab i).2.lt;have g:=(ab i).2.kept (n.mono (ab i).2.lt);have m:=ae (cf b p E2 s x2 g (ab J) (by omega));unfold jm at m;rw[ab c]at m;have t:=ae f;clear n f g i d c0 c1 c2 c;go_wp2_with fail;refine(ab m).mono ?_;rintro e x3 ⟨C,rfl⟩;exact⟨rfl,(ab t).trans C,rfl⟩
  .
   simp only[a0f];have c:=ae v;have I:=(bF v).2.2.2;have R:(x:Int)<65536:=by
    have S:2 ^ E2<=2 ^ 16:=a0N (by omega) (by omega);omega
   clear v I;go_enter func251,ntmps251;go_wp2_with fail;refine(dh _).mono ?_;rintro e x2 ⟨rfl,a⟩;rw[a];clear a x2;go_wp2_with fail;refine(ab d _).mono ?_;rintro e x2 ⟨rfl,n⟩;have f:=(ab i).1.later n (ab i).2.lt;have g:=(ab i).2.kept (n.mono (ab i).2.lt);have m:=ae (cf b p E2 s x2 g (ab J) (by omega));unfold jm at m;rw[ab c]at m;have t:=ae f;clear n f g i d c0 c1 c2 c;go_wp2_with fail;refine(ab m).mono ?_;rintro e x3 ⟨C,rfl,P⟩;have K:=ae (a0b ((ab t).trans C) P);clear C P m t;go_wp2;go_ret;exact⟨(ab K).1,aH (by simp),(ab K).2⟩
 .
  rw[a0d u];have y:¬ (k:Int)<(M:Int):=by omega
  have t:=ae z;clear h H B A j N l O u z r o;go_enter func251,ntmps251;go_wp2_with fail;refine(fx _).mono ?_;rintro e x2 ⟨rfl,a⟩;rw[a];clear a x2;exact⟨rfl,ab t,rfl⟩
theorem LE(n:Nat)(h:n<=65535):n ^^^ 65535=65535-n:=by
 apply Nat.eq_of_testBit_eq;intro i;have e1:(65535:Nat)=2 ^ 16-1:=rfl;have e2:65535-n=2 ^ 16-(n+1):=by omega
 rw[e2,Nat.testBit_two_pow_sub_succ (by omega),Nat.testBit_xor,e1,Nat.testBit_two_pow_sub_one];by_cases a:i<16
 . simp[a]
 . have:n.testBit i=false:=Nat.testBit_lt_two_pow (a0m (by omega) (a0N (by omega) (Nat.le_of_not_lt a)));simp[a,this]
def dZ(V sz:Nat):Nat->Nat->List UInt8->Option (List UInt8×Nat)
 | 0,p,T=>some (T,p)
 | n+1,p,T=>(rdN V sz p 8).bind fun x=>(eT T ((x.1:Nat),0,0)).bind fun T'=>dZ V sz n x.2 T'
def dS(V sz p:Nat)(T:List UInt8):Option (List UInt8×Nat):=
 (gz V p).bind fun q=>(rdN V sz q 16).bind fun a=>(rdN V sz a.2 16).bind fun c=>if c.1=65535-a.1 then dZ V sz a.1 c.2 T else none
theorem FM: ∀(n p:Nat) (T T':List UInt8) (q:Nat),dZ V sz n p T=some (T',q)->p<=sz->q<=sz/\p<=q/\(T.length<=300->T'.length<=300):=by
 intro n;induction n with
 | zero=>
  intro p T T' q h b;simp only[dZ,a0l,a08]at h;obtain⟨rfl,rfl⟩:=h;exact⟨b,a0a _,id⟩
 | succ n ih=>
  intro p T T' q h b;simp only[dZ]at h;rcases a:rdN V sz p 8 with _|⟨x,r⟩
  . rw[a]at h;cases h
  .
   rw[a]at h;simp only[a0f]at h;have c:=bF a;rcases h2:eT T ((x:Nat),0,0)with _|T2
   . rw[h2]at h;cases h
   . rw[h2]at h;simp only[a0f]at h;obtain⟨a1,a2,a3⟩:=ih r T2 T' q h c.1;exact⟨a1,by omega,fun _=>a3 (oL h2)⟩
theorem Bh(h:gz V p=some q):p<=q/\q=p+(8-p%8)%8:=by
 unfold gz at h
 split at h
 . simp only[a0l]at h;omega
 . cases h
theorem wC(h:dS V sz p T=some (T',q)):q<=sz/\p<=q/\(T.length<=300->T'.length<=300):=by
 unfold dS at h;rcases b:gz V p with _|r
 . rw[b]at h;cases h
 rw[b]at h;simp only[a0f]at h;rcases h2:rdN V sz r 16 with _|⟨a,f⟩
 . rw[h2]at h;cases h
 rw[h2]at h;simp only[a0f]at h;rcases d:rdN V sz f 16 with _|⟨c,j⟩
 . rw[d]at h;cases h
 rw[d]at h;simp only[a0f]at h
 split at h
 . have g:=Bh b;have i:=bF h2;have e:=bF d;obtain⟨a1,a2,a3⟩:=FM _ _ _ _ _ h e.1;exact⟨a1,by omega,a3⟩
 . cases h
def lbG(V sz:Nat):List Nat->Nat->List Int->Option (List Int×Nat)
 | [],p,l=>some (l,p)
 | i :: is,p,l=>(rdN V sz p 3).bind fun x=>lbG V sz is x.2 (l.set i ((x.1:Nat):Int))
def jv(V sz many p:Nat):Option (List Int×Nat):=(lbG V sz (bY.take many) p (List.replicate 19 0)).bind fun x=>if au x.1=true then some x else none
theorem N7: ∀(is:List Nat) (p:Nat) (l l':List Int) (q:Nat),lbG V sz is p l=some (l',q)->p<=sz->q<=sz/\p<=q/\l'.length=l.length:=by
 intro is;induction is with
 | nil=>
  intro p l l' q h b;simp only[lbG,a0l,a08]at h;obtain⟨rfl,rfl⟩:=h;exact⟨b,a0a _,rfl⟩
 | cons i is ih=>
  intro p l l' q h b;simp only[lbG]at h;rcases a:rdN V sz p 3 with _|⟨x,r⟩
  . rw[a]at h;cases h
  . rw[a]at h;simp only[a0f]at h;have c:=bF a;obtain⟨a1,a2,a3⟩:=ih _ _ _ _ h c.1;exact⟨a1,by omega,by rw[a3,a1d]⟩
theorem qA{many:Nat}{l:List Int}(h:jv V sz many p=some (l,q))(b:p<=sz):q<=sz/\p<=q/\au l=true/\l.length=19:=by
 unfold jv at h;rcases a:lbG V sz (bY.take many) p (List.replicate 19 0)with _|⟨l1,c⟩
 . rw[a]at h;cases h
 .
  rw[a]at h;simp only[a0f]at h
  split at h
  . simp only[a0l,a08]at h;obtain⟨rfl,rfl⟩:=h;obtain⟨a1,a2,a3⟩:=N7 _ _ _ _ _ a b;exact⟨a1,a2,by assumption,by rw[a3];simp⟩
  . cases h
def dV(V sz:Nat)(A:List Int)(k:Int)(q:Nat):Option (List Int×Nat):=
 if k=16 then(if A.length=0 then none else(rdN V sz q 2).bind fun x=>some (A++List.replicate (3+x.1) (A.getD (A.length-1) 0),x.2))
 else if k=17 then(rdN V sz q 3).bind fun x=>some (A++List.replicate (3+x.1) 0,x.2)
 else if k=18 then(rdN V sz q 7).bind fun x=>some (A++List.replicate (11+x.1) 0,x.2)
 else some (A++[k],q)
def lnF(V sz:Nat)(B:List Int)(n:Nat):Nat->Nat->List Int->Option (List Int×Nat)
 | 0,_,_=>none
 | f+1,p,A=>if A.length<n then(dec B V sz p).bind fun k=>(dV V sz A k.1 k.2).bind fun x=>lnF V sz B n f x.2 x.1
  else if A.length=n then some (A,p)else none
def lnG(V sz:Nat)(B:List Int)(n p:Nat)(A:List Int):Option (List Int×Nat):=lnF V sz B n (sz+1-p) p A
theorem lS{A':List Int}{k:Int}{r:Nat}(h:dV V sz A k q=some (A',r))(hq:q<=sz):r<=sz/\q<=r/\A.length<A'.length/\A'.length<=A.length+138:=by
 unfold dV at h;have key:∀(bt c:Nat) (v:Int),bt<=7->c<=11->3<=c->(rdN V sz q bt).bind (fun x=>some (A++List.replicate (c+x.1) v,x.2))=some (A',r)->r<=sz/\q<=r/\A.length<A'.length/\A'.length<=A.length+138:=by
  intro bt c v b g e h;rcases a:rdN V sz q bt with _|⟨x,t⟩
  . rw[a]at h;cases h
  . rw[a]at h;simp only[a0f,a0l,a08]at h;obtain⟨rfl,rfl⟩:=h;have d:=bF a;have f:2 ^ bt<=2 ^ 7:=a0N (by omega) b;refine⟨d.1,by omega,?_,?_⟩<;>simp only[a0j,a0x]<;>omega
 split at h
 .
  split at h
  . cases h
  . exact key 2 3 _ (by omega) (by omega) (by omega) h
 .
  split at h
  . exact key 3 3 _ (by omega) (by omega) (by omega) h
  .
   split at h
   . exact key 7 11 _ (by omega) (by omega) (by omega) h
   . simp only[a0l,a08]at h;obtain⟨rfl,rfl⟩:=h;exact⟨hq,a0a _,by simp,by simp⟩
theorem J6: ∀(m f p:Nat) (A:List Int),sz+1-p<=m->sz+1-p<=f->p<=sz->lnF V sz B n f p A=lnF V sz B n (sz+1-p) p A:=by
 intro m;induction m with
 | zero=>intro f p A b h2 c;omega
 | succ m ih=>
  intro f p A b h2 c;obtain⟨f',rfl⟩:∃g,f=g+1:=⟨f-1,by omega⟩;obtain⟨m',hm⟩:∃g,sz+1-p=g+1:=⟨sz-p,by omega⟩;rw[hm];simp only[lnF]
  split
  .
   rcases hd:dec B V sz p with _|⟨i,q⟩
   . rfl
   .
    have hb:=fE hd;simp only[a0f];rcases d:dV V sz A i q with _|⟨A',r⟩
    . rfl
    . have a:=lS d hb.1;simp only[a0f];rw[ih f' r A' (by omega) (by omega) a.1,ih m' r A' (by omega) (by omega) a.1]
  . rfl
theorem Am(c:p<=sz)(h:A.length<n):lnG V sz B n p A=(dec B V sz p).bind fun k=>(dV V sz A k.1 k.2).bind fun x=>lnG V sz B n x.2 x.1:=by
 unfold lnG;obtain⟨m,hm⟩:∃g,sz+1-p=g+1:=⟨sz-p,by omega⟩;rw[hm];simp only[lnF,a0e h];rcases hd:dec B V sz p with _|⟨i,q⟩
 . rfl
 .
  have hb:=fE hd;simp only[a0f];rcases a:dV V sz A i q with _|⟨A',r⟩
  . rfl
  . have b:=lS a hb.1;simp only[a0f];exact J6 m m r A' (by omega) (by omega) b.1
theorem Ap(a:p<=sz)(h:¬ A.length<n):lnG V sz B n p A=if A.length=n then some (A,p)else none:=by
 unfold lnG;obtain⟨m,hm⟩:∃g,sz+1-p=g+1:=⟨sz-p,by omega⟩;rw[hm];simp only[lnF,a0d h]
theorem N8: ∀(f p:Nat) (A A':List Int) (q:Nat),lnF V sz B n f p A=some (A',q)->p<=sz->q<=sz/\p<=q/\A'.length=n:=by
 intro f;induction f with
 | zero=>intro p A A' q h;simp[lnF]at h
 | succ f ih=>
  intro p A A' q h d;simp only[lnF]at h
  split at h
  .
   rcases hd:dec B V sz p with _|⟨i,r⟩
   . rw[hd]at h;cases h
   .
    rw[hd]at h;have hb:=fE hd;simp only[a0f]at h;rcases a:dV V sz A i r with _|⟨A2,g⟩
    . rw[a]at h;cases h
    . rw[a]at h;have e:=lS a hb.1;simp only[a0f]at h;obtain⟨b,h2,c⟩:=ih _ _ _ _ h e.1;exact⟨b,by omega,c⟩
  .
   split at h
   . simp only[a0l,a08]at h;obtain⟨rfl,rfl⟩:=h;exact⟨d,a0a _,by assumption⟩
   . cases h
theorem DK{A':List Int}(h:lnG V sz B n p A=some (A',q))(a:p<=sz):q<=sz/\p<=q/\A'.length=n:=N8 _ _ _ _ _ h a
def sS(V sz n:Nat)(A:List Int)(p:Nat)(T:List UInt8):Option (List UInt8×Nat):=
 if au (A.take n)=true then(if au (A.drop n)=true then iK V sz (A.take n) (A.drop n) p T else none)else none
def ux(V sz p:Nat)(T:List UInt8):Option (List UInt8×Nat):=
 (rdN V sz p 5).bind fun a=>(rdN V sz a.2 5).bind fun c=>if a.1+257<=286/\c.1+1<=30 then
  (rdN V sz c.2 4).bind fun m=>(jv V sz (m.1+4) m.2).bind fun B=>(lnG V sz B.1 (a.1+257+(c.1+1)) B.2 []).bind fun A=>sS V sz (a.1+257) A.1 A.2 T else none
def F8(V sz p:Nat)(T:List UInt8):Option (List UInt8×Nat):=iK V sz (dc 288) (List.replicate 32 5) p T
def gO(V sz k p:Nat)(T:List UInt8):Option (List UInt8×Nat):=
 if k=0 then dS V sz p T else if k=1 then F8 V sz p T else if k=2 then ux V sz p T else none
theorem FJ(h:sS V sz n A p T=some (T',q)):q<=sz/\p<q/\(T.length<=300->T'.length<=300):=by
 unfold sS at h
 split at h
 .
  split at h
  . exact yB h
  . cases h
 . cases h
theorem Fb(h:ux V sz p T=some (T',q)):q<=sz/\p<=q/\(T.length<=300->T'.length<=300):=by
 unfold ux at h;rcases b:rdN V sz p 5 with _|⟨a,k⟩
 . rw[b]at h;cases h
 rw[b]at h;simp only[a0f]at h;rcases h2:rdN V sz k 5 with _|⟨c,l⟩
 . rw[h2]at h;cases h
 rw[h2]at h;simp only[a0f]at h
 split at h
 .
  rcases d:rdN V sz l 4 with _|⟨m,n⟩
  . rw[d]at h;cases h
  rw[d]at h;simp only[a0f]at h;rcases e:jv V sz (m+4) n with _|⟨B,o⟩
  . rw[e]at h;cases h
  rw[e]at h;simp only[a0f]at h;rcases f:lnG V sz B (a+257+(c+1)) o []with _|⟨A,u⟩
  . rw[f]at h;cases h
  rw[f]at h;simp only[a0f]at h;have r:=bF b;have s:=bF h2;have i:=bF d;have j:=qA e i.1;have t:=DK f j.1;have g:=FJ h;exact⟨g.1,by omega,g.2.2⟩
 . cases h
theorem tM{k:Nat}(h:gO V sz k p T=some (T',q)):q<=sz/\p<=q/\(T.length<=300->T'.length<=300):=by
 unfold gO at h
 split at h
 . exact wC h
 .
  split at h
  . have:=yB h;exact⟨this.1,by omega,this.2.2⟩
  .
   split at h
   . exact Fb h
   . cases h
def ia(V sz:Nat):Nat->Nat->List UInt8->Option (List UInt8×Nat)
 | 0,_,_=>none
 | f+1,p,T=>(rdN V sz p 1).bind fun a=>(rdN V sz a.2 2).bind fun k=>(gO V sz k.1 k.2 T).bind fun r=>if a.1=1 then some r else ia V sz f r.2 r.1
def ib(V sz p:Nat)(T:List UInt8):Option (List UInt8×Nat):=ia V sz (sz+1-p) p T
def fH(V sz p:Nat)(T:List UInt8):Option (List UInt8×Nat):=(ib V sz p T).bind fun r=>(gz V r.2).bind fun q=>some (r.1,q)
theorem Bc: ∀(n f p:Nat) (T:List UInt8),sz+1-p<=n->sz+1-p<=f->ia V sz f p T=ia V sz (sz+1-p) p T:=by
 intro n;induction n with
 | zero=>
  intro f p T d h2;have e:sz+1-p=0:=by omega
  rw[e];cases f with
  | zero=>rfl
  | succ f=>
   have hd:rdN V sz p 1=none:=fi (by omega);simp only[ia,hd,a15]
 | succ n ih=>
  intro f p T d h2;rcases hd:rdN V sz p 1 with _|⟨a,q⟩
  .
   cases f with
   | zero=>rw[show sz+1-p=0 by omega]
   | succ f=>
    rcases b:sz+1-p with _|m
    . simp only[ia,hd,a15]
    . simp only[ia,hd,a15]
  .
   have hb:=bF hd;obtain⟨f',rfl⟩:∃g,f=g+1:=⟨f-1,by omega⟩;obtain⟨m,b⟩:∃g,sz+1-p=g+1:=⟨sz-p,by omega⟩;rw[b];simp only[ia,hd,a0f];rcases j:rdN V sz q 2 with _|⟨k,o⟩
   . rfl
   .
    have h:=bF j;simp only[a0f];rcases l:gO V sz k o T with _|⟨T',c⟩
    . rfl
    .
     have i:=tM l;simp only[a0f]
     split
     . rfl
     . rw[ih f' c T' (by omega) (by omega),ih m c T' (by omega) (by omega)]
theorem rD: ib V sz p T=(rdN V sz p 1).bind fun a=>(rdN V sz a.2 2).bind fun k=>(gO V sz k.1 k.2 T).bind fun r=>if a.1=1 then some r else ib V sz r.2 r.1:=by
 rcases hd:rdN V sz p 1 with _|⟨a,q⟩
 .
  unfold ib;rcases b:sz+1-p with _|m
  . rfl
  . simp only[ia,hd,a15]
 .
  have hb:=bF hd;unfold ib;obtain⟨m,b⟩:∃g,sz+1-p=g+1:=⟨sz-p,by omega⟩;rw[b];simp only[ia,hd,a0f];rcases e:rdN V sz q 2 with _|⟨k,h⟩
  . rfl
  .
   have c:=bF e;simp only[a0f];rcases f:gO V sz k h T with _|⟨T',i⟩
   . rfl
   .
    have d:=tM f;simp only[a0f]
    split
    . rfl
    . exact Bc m m i T' (by omega) (by omega)
theorem G4: ∀(f p:Nat) (T T':List UInt8) (q:Nat),ia V sz f p T=some (T',q)->q<=sz/\p<q/\(T.length<=300->T'.length<=300):=by
 intro f;induction f with
 | zero=>intro p T T' q h;simp[ia]at h
 | succ f ih=>
  intro p T T' q h;simp only[ia]at h;rcases hd:rdN V sz p 1 with _|⟨a,g⟩
  . rw[hd]at h;cases h
  rw[hd]at h;simp only[a0f]at h;rcases c:rdN V sz g 2 with _|⟨k,i⟩
  . rw[c]at h;cases h
  rw[c]at h;simp only[a0f]at h;rcases d:gO V sz k i T with _|⟨T2,m⟩
  . rw[d]at h;cases h
  rw[d]at h;simp only[a0f]at h;have j:=bF hd;have l:=bF c;have b:=tM d
  split at h
  . simp only[a0l,a08]at h;obtain⟨rfl,rfl⟩:=h;exact⟨b.1,by omega,b.2.2⟩
  . have e:=ih _ _ _ _ h;exact⟨e.1,by omega,fun h=>e.2.2 (b.2.2 h)⟩
theorem G6(h:ib V sz p T=some (T',q)):q<=sz/\p<q/\(T.length<=300->T'.length<=300):=G4 _ _ _ _ _ h
def RF(w:World)(b:Nat)(s:ByteArray)(p:Nat)(f:Bool):Prop:=Three w b (.string s) (.int .i64 (min p (8*s.size):Nat)) (.bool f)
theorem RF.lt(h:RF w b s p f):b<w.heap.size:=h.2.2.2.2.2.2
theorem RF.kept{w':World}(h:RF w b s p f)(hb:Below (b+1) w w'):RF w' b s p f:=Three.kept h hb
theorem oA(h:RF w b s p false)(a:p<=8*s.size):Rdr w b s p:=by
 unfold Rdr;rw[a0h (by omega)];exact h
theorem dQ(h:Rdr w b s p):RF w b s p (decide (8*s.size<p)):=h
theorem RF.cut(h:RF w b s p true):∃q,q<=8*s.size/\RF w b s q true:=⟨min p (8*s.size),a3b _ _,by unfold RF at h ⊢;rw[a1h (a3b p (8*s.size))];exact h⟩
theorem RF.setBad(h:RF w b s p f):RF (w.setCell ⟨b,2,none⟩ (.bool true)) b s p true:=Three.set2 h _
theorem RF.bad(h:RF w b s p f):w.cell? ⟨b,2,none⟩=some (.bool f)/\w.frozen? ⟨b,2,none⟩=false:=⟨h.2.2.1,h.2.2.2.2.2.1⟩
theorem iQ(b p c:Nat)(f:Bool)(s:ByteArray)(w:World)(h:RF w b s p f)(j:f=false->p<=8*s.size)(i:s.size<=2000000)(g:c<=16) :
  Calls prog 159 #[.pointer (some ⟨b,0,none⟩),.int .i64 (c:Int)] w fun e w'=>e = .returned (.int .i64 (aj s/2 ^ p%2 ^ c:Nat))/\RF w' b s (p+c) (f || decide (8*s.size<p+c))/\av b w w':=by
 cases f
 . exact(ig b p c s w (oA h (j rfl)) i g).mono fun e w' ⟨a,h2,d⟩=>⟨a,by rw[a2h];exact dQ h2,d⟩
 . exact(Cn b p c s w h i g).mono fun e w' ⟨a,h2,d⟩=>⟨a,by rw[a3f];exact h2,d⟩
theorem pO(b p:Nat)(f:Bool)(s:ByteArray)(w:World)(h:RF w b s p f)(d:p<=8*s.size)(g:s.size<=2000000) :
  Calls prog 118 #[.pointer (some ⟨b,0,none⟩)] w fun e w'=>e = .returned (.bool (decide (aj s/2 ^ p%2 ^ ((8-p%8)%8)=0)))/\RF w' b s (p+(8-p%8)%8) f/\av b w w':=by
 cases f
 . exact(yx b p s w (oA h d) g d).mono fun e w' ⟨a,h2,c⟩=>⟨a,by have:=dQ h2;rwa[a0h (by omega)]at this,c⟩
 . exact(xe b p s w h g d).mono fun e w' ⟨a,h2,c⟩=>⟨a,h2,c⟩
theorem Ee(a ac:Option Addr)(cap d n b p:Nat)(s:ByteArray)(w:World)(h:RF w b s p true) :
  Calls prog 202 #[.pointer (some ⟨b,0,none⟩),.slice a n cap,.slice ac n d] w fun e w'=>e = .returned (.int .i64 (-1))/\RF w' b s p true/\av b w w':=by
 have c:=ae h;obtain⟨c2,f2⟩:=h.bad;have f:=h.lt;clear h;go_enter func202,ntmps202;go_wp2_with fail
 go_loopw [6,7,8,9] (fun _ _ lg _ wr=>lg = .int .i64 1/\wr=w) (fun _ _ _ _ _=>0)
 case atStart=>exact⟨rfl,rfl⟩
 case round=>
  obtain⟨rfl,rfl⟩:=hrel;go_wp2;go_ret;exact⟨rfl,(ab c).setBad,bz _ _ _ _⟩
def oK(w:World)(b:Nat)(s:ByteArray)(d:Option (Int×Nat))(e:Ending)(w':World):Prop:=
 av b w w'/\match d with
  | none=>∃x q,e = .returned (.int .i64 x)/\RF w' b s q true
  | some (i,q)=>e = .returned (.int .i64 i)/\Rdr w' b s q
theorem qR(a ac:Option Addr)(cap cc n b p:Nat)(l:List Int)(s:ByteArray)(w:World)(hn:l.length=n)(T:au l=true)
  (hs:s.size<=2000000) (hr:Rdr w b s p) (hp:p<=8*s.size) (a9:∀W,av b w W->aZ W a l) (a8:∀W,av b w W->aZ W ac (aV l 15).2) :
  Calls prog 202 #[.pointer (some ⟨b,0,none⟩),.slice a n cap,.slice ac n cc] w (oK w b s (dec l (aj s) (8*s.size) p)):=by
 have Z:=ae hn;have HS:=ae hs;have aa:=ae T;have be:=ae a9;have bd:=ae a8;have b0:(n:Int)<=300:=by have:=ce T;omega
 clear hn hs T a9 a8;go_enter func202,ntmps202;go_wp2_with fail
 go_loopw [6,7,8,9] (fun _ c lg _ wr=>∃(N:Nat) (x:Int),N<=15/\lg = .int .i64 ((N:Int)+1)/\c = .int .i64 x/\av b w wr/\((x=(cd (aj s) p N:Nat)/\nx l N<=cd (aj s) p N/\Rdr wr b s (p+N)/\p+N<=8*s.size/\dec l (aj s) (8*s.size) p=nY l (aj s) (8*s.size) p (15-N) N)∨(dec l (aj s) (8*s.size) p=none/\∃qv,RF wr b s qv true))) (fun _ _ lg _ _=>16-(intOf lg).toNat)
 case atStart=>exact⟨0,0,by omega,rfl,rfl,av.refl _ _,.inl ⟨rfl,a0a _,hr,by omega,rfl⟩⟩
 case round=>
  obtain⟨N,x,hN,rfl,rfl,u,Q⟩:=hrel;clear hr hp;have bn:(N:Int)<=15:=by omega
  rcases Q with⟨rfl,D,A,U,H⟩|⟨a7,qv,an⟩
  .
   have h3:=A.at U;obtain⟨q0,q1,q2,g0,g1,g2,a0⟩:=h3;have HP:=ae U;have bc:=ae D;have Y:=ae H;have c1:=ae (I8 (aj s) p N hN);have cI:(cd (aj s) p N:Int)<=32768:=by have:=ab c1;omega
   clear U D H;by_cases S:N<15
   .
    have G:decide ((N:Int)+1<=15)=true:=a0v (by omega);have F:(aj s/2 ^ (p+N)%2:Nat)=ve (aj s) (p+N):=rfl;have bk:Hid (2*(cd (aj s) p N:Int)+(ve (aj s) (p+N):Int)=(cd (aj s) p (N+1):Int)):=by
     show 2*(cd (aj s) p N:Int)+(ve (aj s) (p+N):Int)=(cd (aj s) p (N+1):Int);simp only[cd];omega
    have a2:Hid (2*nx l N<=cd (aj s) p (N+1)):=by
     show 2*nx l N<=cd (aj s) p (N+1);have:=ab bc;simp only[cd];omega
    have al:=ae (fun d h2=>sY (l:=l) (V:=aj s) (sz:=8*s.size) (p:=p) (f:=14-N) (n:=N) d h2);have P:=ae (fun d h2=>pY (l:=l) (V:=aj s) (sz:=8*s.size) (p:=p) (f:=14-N) (n:=N) d h2);have r:=ae (fun d=>nZ (l:=l) (V:=aj s) (sz:=8*s.size) (p:=p) (f:=14-N) (n:=N) d);have e15:15-N=(14-N)+1:=by omega
    have e14:14-N=15-(N+1):=by omega
    rw[e15]at Y;have bI:(ve (aj s) (p+N):Int)<=1:=by omega
    clear g0 g1 g2 q0 q1 a0;go_wp2_with fail;refine(lz b (p+N) s _ A (ab HS)).mono ?_;rintro e x1 ⟨rfl,K,a6⟩;rw[F];have t:=u.trans a6;have M:=ae (ab be x1 t);have L:=ae (ab bd x1 t);have m:=ae t;have B:=ae K;clear A u a6 t K F q2;go_wp2_with fail;rw[ab bk]
    go_loopw [6,9] (fun _ i wr=>∃k:Nat,k<=n/\i = .int .i64 k/\wr=x1/\∀j,j<k->l.getD j 0=(N:Int)+1->dE l j≠cd (aj s) p (N+1)) (fun _ i _=>n-(intOf i).toNat)
    case atStart=>exact⟨0,a0g _,rfl,rfl,fun j hj=>absurd hj (by omega)⟩
    case round=>
     obtain⟨k,hk,rfl,rfl,J⟩:=hrel;have O:=ae J;clear J;by_cases R:k<n
     .
      have E:Hid (k<l.length):=by show k<l.length;rw[ab Z];exact R
      obtain⟨g,o,rfl,hg,a5⟩:=ab M (by rw[ab Z];omega);have d0:=a5 k (by rw[ab Z];exact R);obtain⟨g',o',rfl,bs,a1⟩:=ab L (by rw[bC,ab Z];omega);have d1:=a1 k (by rw[bC,ab Z];exact R);have a3:=ae (vI (ab aa) (ab E));have Hk:=ae hk;have hY:=ae (fun h=>vG (ab aa) (ab E) h);have bl:=ae (fun(i:Nat) (d:l.getD i 0=l.getD k 0) (h2:dE l i=dE l k)=>Ft d h2);clear a5 a1 hk M L;generalize ba:l.getD k 0=y at *
      have EY:=ae ba;clear ba;by_cases hy:y=(N:Int)+1
      .
       have a4:(aV l 15).2.getD k 0=(dE l k:Int):=by have:=ab a3;rw[a0e (by omega)]at this;exact this
       rw[a4]at d1;subst hy;by_cases hc:dE l k=cd (aj s) p (N+1)
       .
        have z:=ab hY (by omega);have eN:((N:Int)+1).toNat=N+1:=by omega
        rw[eN]at z;rw[hc]at d1;have ad:Hid (oK w b s (dec l (aj s) (8*s.size) p) (.returned (.int .i64 (k:Int))) wr):=by
         show oK w b s (dec l (aj s) (8*s.size) p) (.returned (.int .i64 (k:Int))) wr;refine⟨ab m,?_⟩;by_cases q:8*s.size<p+N+1
         . rw[ab Y,ab r q];exact⟨_,_,rfl,(ab B).three q⟩
         .
          have I:cd (aj s) p (N+1)<nx l (N+1):=by rw[←hc];exact z.2
          rw[ab Y,ab al q I];obtain⟨i,hi,d,h2,h3⟩:=qQ (l:=l) S (ab a2) I;have:i=k:=Ft (d.trans (ab EY).symm) (h2.trans hc.symm);subst this;exact⟨by rw[h3],ab B⟩
        clear z;generalize cd (aj s) p (N+1)=X at *
        go_wp2;go_ret;exact ab ad
       .
        have g1:((dE l k:Int) == (cd (aj s) p (N+1):Int))=false:=by rw[a03];omega
        have v:Hid (∀j,j<k+1->l.getD j 0=(N:Int)+1->dE l j≠cd (aj s) p (N+1)):=by
         show ∀j,j<k+1->l.getD j 0=(N:Int)+1->dE l j≠cd (aj s) p (N+1);intro j hj d;by_cases e:j=k
         . subst e;exact hc
         . exact ab O j (by omega) d
        go_wp2;go_roundw
        case rel=>exact⟨k+1,by have:=ab Hk;omega,by go_num,by first|rfl|trivial,ab v⟩
        case measure=>simp[intOf];omega
      .
       have g1:(y == (N:Int)+1)=false:=by simpa using hy
       have v:Hid (∀j,j<k+1->l.getD j 0=(N:Int)+1->dE l j≠cd (aj s) p (N+1)):=by
        show ∀j,j<k+1->l.getD j 0=(N:Int)+1->dE l j≠cd (aj s) p (N+1);intro j hj d;by_cases e:j=k
        . subst e;rw[ab EY]at d;exact absurd d hy
        . exact ab O j (by omega) d
       go_wp2;go_roundw
       case rel=>exact⟨k+1,by have:=ab Hk;omega,by go_num,by first|rfl|trivial,ab v⟩
       case measure=>simp[intOf];omega
     .
      have E:k=l.length:=by have:=ab Z;omega
      subst E;have bb:Hid ((cd (aj s) p (N+1):Int)=((cd (aj s) p (N+1):Nat):Int)/\((nx l (N+1)<=cd (aj s) p (N+1)/\Rdr wr b s (p+(N+1))/\p+(N+1)<=8*s.size/\dec l (aj s) (8*s.size) p=nY l (aj s) (8*s.size) p (15-(N+1)) (N+1))∨(dec l (aj s) (8*s.size) p=none/\∃qv,RF wr b s qv true))):=by
       refine⟨rfl,?_⟩;by_cases q:8*s.size<p+N+1
       . exact .inr ⟨by rw[ab Y,ab r q],_,(ab B).three q⟩
       .
        have D:nx l (N+1)<=cd (aj s) p (N+1):=by
         rcases a1k (cd (aj s) p (N+1)) (nx l (N+1))with h|h
         . obtain⟨i,hi,d,h2,h3⟩:=qQ (l:=l) S (ab a2) h;exact absurd h2 (ab O i hi d)
         . exact h
        exact .inl ⟨D,ab B,by omega,by rw[ab Y,ab P q (by omega),e14]⟩
      clear M L;go_wp2;go_roundw
      case rel=>
       refine⟨N+1,(cd (aj s) p (N+1):Nat),by omega,by go_num,rfl,ab m,?_⟩;rcases (ab bb).2 with h|h
       . exact .inl ⟨rfl,h⟩
       . exact .inr h
      case measure=>simp[intOf];omega
   .
    obtain rfl:N=15:=by omega
    have Hn:Hid (dec l (aj s) (8*s.size) p=none):=ab Y;have C:=ae (dQ A);have m:=ae u;clear A u;go_wp2;go_ret;unfold oK;rw[ab Hn];exact⟨(ab m).trans (bz _ _ _ _),_,_,rfl,(ab C).setBad⟩
  .
   have h3:Three wr b (.string s) (.int .i64 (min qv (8*s.size):Nat)) (.bool true):=an;have C:=ae an;have m:=ae u;have Hn:=ae a7;obtain⟨q0,q1,q2,g0,g1,g2,a0⟩:=h3;clear u a7;by_cases S:(N:Int)<15
   . have G:decide ((N:Int)+1<=15)=true:=a0v (by omega);go_wp2;go_ret;unfold oK;rw[ab Hn];exact⟨(ab m).trans (bz _ _ _ _),_,_,rfl,(ab C).setBad⟩
   . have G:decide ((N:Int)+1<=15)=false:=a0h (by omega);go_wp2;go_ret;unfold oK;rw[ab Hn];exact⟨(ab m).trans (bz _ _ _ _),_,_,rfl,(ab C).setBad⟩
end Go.Proofs.YtchidddpplangaaGreatDoor
