/- Of what the proof is made: 7 texts, one behind the other. -/
import Derived.Test.YtkdlcomfpffhhaaGreatDoorM19
import Derived.Test.YtkdlcomfpffhhaaGreatDoorM18
import Derived.Test.YtkdlcomfpffhhaaGreatDoorM8
import Derived.Test.YtkdlcomfpffhhaaGreatDoorM14
import Derived.WalkLawsBesides
import Derived.Test.YtkdlcomfpffhhaaGreatDoorM3
import Derived.Test.YtkdlcomfpffhhaaGreatDoorM17
set_option maxRecDepth 100000
set_option linter.unusedSimpArgs false
set_option linter.unusedVariables false
set_option maxHeartbeats 3200000
namespace Go.Proofs.YtkdlcomfpffhhaaGreatDoor
open Go.Proofs.Tryz
open Go.RowKit Corb
variable {A B:List Int}{T T':List UInt8}{V b n p q sz:Nat}{f:Bool}{s:ByteArray}{w:World}
def iY:Ending:=.panicked [{ v:=.iface 306 (.agg #[]),recovered:=false }]
theorem cG(w:World):Calls prog 250 #[.bool true] w fun e w'=>e = .returned (.tuple #[])/\w'=w:=by
 go_enter func250,ntmps250;go_wp2
 go_end0
 exact⟨rfl,rfl⟩
theorem er(w:World):Calls prog 250 #[.bool false] w fun e w'=>e=iY/\w'=w:=by
 go_enter func250,ntmps250;go_wp2;exact⟨rfl,rfl,rfl⟩
def ig(w:World)(b:Nat)(s:ByteArray)(d:Option (Nat×Nat))(e:Ending)(w':World):Prop:=
 aw b w w'/\match d with
  | none=>e=iY
  | some (x,q)=>e = .returned (.int .i64 (x:Nat))/\Rdr w' b s q
theorem bD(b p k:Nat)(s:ByteArray)(w:World)(h:Rdr w b s p)(m:s.size<=2000000)(l:k<=16) :
  Calls prog 249 #[.pointer (some ⟨b,0,none⟩),.int .i64 (k:Int)] w (ig w b s (rdN (ai s) (8*s.size) p k)):=by
 have HP:=af (sN b p k 0 s w h m l);unfold ig;by_cases i:p+k<=8*s.size
 . rw[ca i];have hd:decide (8*s.size<p+k)=false:=a0j (by omega);have j:=af hd;clear h m l i hd;go_enter func249,ntmps249;go_wp2_with fail;refine(ae HP).mono ?_;rintro e x1 ⟨rfl,d,f⟩;have c:=d;unfold Rdr at c;rw[ae j]at c;obtain⟨n,o,q,_⟩:=c;have g:=af (a0b d f);clear d f HP n o;go_wp2_with fail;refine(cG _).mono ?_;rintro e x2 ⟨rfl,a⟩;rw[a];clear a x2;go_wp2;go_ret;exact⟨(ae g).2,rfl,(ae g).1⟩
 . rw[dZ i];have hd:decide (8*s.size<p+k)=true:=a0w (by omega);have j:=af hd;clear h m l i hd;go_enter func249,ntmps249;go_wp2_with fail;refine(ae HP).mono ?_;rintro e x1 ⟨rfl,d,f⟩;have c:=d;unfold Rdr at c;rw[ae j]at c;obtain⟨n,o,q,_⟩:=c;have g:=af f;clear d f HP n o;go_wp2_with fail;refine(er _).mono ?_;rintro e x2 ⟨rfl,a⟩;rw[a];clear a x2;exact⟨rfl,ae g,rfl⟩
theorem aw.later{w1 w2:World}(h:aw b w w1)(hb:Below w1.heap.size w1 w2)(a:b<w1.heap.size):aw b w w2:=
 ⟨h.1.trans (hb.mono (a0y a)),fun j c d=>(hb.block j (a0i c h.1.size)).trans (h.2 j c d),fun j c=>⟨(hb.cell (p:=⟨b,j,none⟩) a).trans (h.3 j c).1,(hb.frozen (p:=⟨b,j,none⟩) a).trans (h.3 j c).2⟩⟩
def fJ(V p:Nat):Option Nat:=if V/2 ^ p%2 ^ ((8-p%8)%8)=0 then some (p+(8-p%8)%8)else none
theorem ml(b p:Nat)(s:ByteArray)(w:World)(h:Rdr w b s p)(j:s.size<=2000000)(i:p<=8*s.size) :
  Calls prog 251 #[.pointer (some ⟨b,0,none⟩)] w fun e w'=>aw b w w'/\match fJ (ai s) p with
   | none=>e=iY
   | some q=>e = .returned (.tuple #[])/\Rdr w' b s q:=by
 have HP:=af (qd b p s w h j i);unfold fJ;by_cases c:ai s/2 ^ p%2 ^ ((8-p%8)%8)=0
 .
  rw[a0e c];rw[a0w c]at HP;clear h j i c;go_enter func251,ntmps251;go_wp2_with fail;refine(ae HP).mono ?_;rintro e x1 ⟨rfl,g,d⟩;have f:=af (a0b g d);clear g d HP;go_wp2_with fail;refine(cG _).mono ?_;rintro e x2 ⟨rfl,a⟩;rw[a];clear a x2;go_wp2
  go_end0
  exact⟨(ae f).2,rfl,(ae f).1⟩
 . rw[a0d c];rw[a0j c]at HP;clear h j i c;go_enter func251,ntmps251;go_wp2_with fail;refine(ae HP).mono ?_;rintro e x1 ⟨rfl,g,d⟩;have f:=af d;clear g d HP;go_wp2_with fail;refine(er _).mono ?_;rintro e x2 ⟨rfl,a⟩;rw[a];clear a x2;exact⟨rfl,ae f,rfl⟩
theorem sR(L G M b p k:Nat)(s:ByteArray)(w:World)(h:Rdr w b s p)(H:s.size<=2000000)(B:L<=3)(A:1<=G)(j:G<=4)(N:M<=30)(l:∀k,k<M->k/G<=15)(O:k<=1000) :
  Calls prog 287 #[.pointer (some ⟨b,0,none⟩),.agg #[.int .i64 (L:Nat),.int .i64 (G:Nat),.int .i64 (M:Nat)],.int .i64 (k:Nat)] w (ig w b s (scG (ai s) (8*s.size) L G M k p)):=by
 have F:=h.lt;have z:aw b w (w.alloc (.cells #[.int .i64 (L:Nat),.int .i64 (G:Nat),.int .i64 (M:Nat)] 291)):=(aw.refl b w).alloc F _;have o:(w.alloc (.cells #[.int .i64 (L:Nat),.int .i64 (G:Nat),.int .i64 (M:Nat)] 291)).heap[w.heap.size]?=some (Obj.cells #[.int .i64 (L:Nat),.int .i64 (G:Nat),.int .i64 (M:Nat)] 291):=alloc_at _ _;have r:=h.alloc (.cells #[.int .i64 (L:Nat),.int .i64 (G:Nat),.int .i64 (M:Nat)] 291);have J:=af H;unfold ig scG;by_cases u:k<M
 .
  rw[a0e u];have y:(k:Int)<(M:Int):=by omega
  have D:=sX B A j (l k u);have d:=af (fun W=>JO L G M k W B A j (l k u) (by omega));obtain⟨c0,c1,c2,_⟩:=rH o;have i:=af (a0b z r);clear h H B A j N l O u z r o;generalize Q:stF L G k=E at *
  clear Q;obtain⟨E1,E2⟩:=E;simp only at D d ⊢;rcases v:rdN (ai s) (8*s.size) p E2 with _|⟨x,q⟩
  . simp only[a2e];have c:=af v;clear v;go_enter func287,ntmps287;go_wp2_with fail;refine(cG _).mono ?_;rintro e x2 ⟨rfl,a⟩;rw[a];clear a x2;go_wp2_with fail;refine(ae d _).mono ?_;rintro e x2 ⟨rfl,n⟩;have f:=(ae i).1.later n (ae i).2.lt;have g:=(ae i).2.kept (n.mono (ae i).2.lt);have m:=af (bD b p E2 s x2 g (ae J) (by omega));unfold ig at m;rw[ae c]at m;have t:=af f;clear n f g i d c0 c1 c2 c;go_wp2_with fail;refine(ae m).mono ?_;rintro e x3 ⟨C,rfl⟩;exact⟨rfl,(ae t).trans C,rfl⟩
  .
   simp only[a0g];have c:=af v;have I:=(bh v).2.2.2;have R:(x:Int)<65536:=by
    have S:2 ^ E2<=2 ^ 16:=a0W (by omega) (by omega);omega
   clear v I;go_enter func287,ntmps287;go_wp2_with fail;refine(cG _).mono ?_;rintro e x2 ⟨rfl,a⟩;rw[a];clear a x2;go_wp2_with fail;refine(ae d _).mono ?_;rintro e x2 ⟨rfl,n⟩;have f:=(ae i).1.later n (ae i).2.lt;have g:=(ae i).2.kept (n.mono (ae i).2.lt);have m:=af (bD b p E2 s x2 g (ae J) (by omega));unfold ig at m;rw[ae c]at m;have t:=af f;clear n f g i d c0 c1 c2 c;go_wp2_with fail;refine(ae m).mono ?_;rintro e x3 ⟨C,rfl,P⟩;have K:=af (a0b ((ae t).trans C) P);clear C P m t;go_wp2;go_ret;exact⟨(ae K).1,aO (by simp),(ae K).2⟩
 .
  rw[a0d u];have y:¬ (k:Int)<(M:Int):=by omega
  have t:=af z;clear h H B A j N l O u z r o;go_enter func287,ntmps287;go_wp2_with fail;refine(er _).mono ?_;rintro e x2 ⟨rfl,a⟩;rw[a];clear a x2;exact⟨rfl,ae t,rfl⟩
theorem Kg(n:Nat)(h:n<=65535):n ^^^ 65535=65535-n:=by
 apply Nat.eq_of_testBit_eq;intro i;have e1:(65535:Nat)=2 ^ 16-1:=rfl;have e2:65535-n=2 ^ 16-(n+1):=by omega
 rw[e2,Nat.testBit_two_pow_sub_succ (by omega),Nat.testBit_xor,e1,Nat.testBit_two_pow_sub_one];by_cases a:i<16
 . simp[a]
 . have:n.testBit i=false:=Nat.testBit_lt_two_pow (a0i (by omega) (a0W (by omega) (Nat.le_of_not_lt a)));simp[a,this]
def du(V sz:Nat):Nat->Nat->List UInt8->Option (List UInt8×Nat)
 | 0,p,T=>some (T,p)
 | n+1,p,T=>(rdN V sz p 8).bind fun x=>(dT T ((x.1:Nat),0,0)).bind fun T'=>du V sz n x.2 T'
def dk(V sz p:Nat)(T:List UInt8):Option (List UInt8×Nat):=
 (fJ V p).bind fun q=>(rdN V sz q 16).bind fun a=>(rdN V sz a.2 16).bind fun c=>if c.1=65535-a.1 then du V sz a.1 c.2 T else none
theorem D5: ∀(n p:Nat) (T T':List UInt8) (q:Nat),du V sz n p T=some (T',q)->p<=sz->q<=sz/\p<=q/\(T.length<=300->T'.length<=300):=by
 intro n;induction n with
 | zero=>
  intro p T T' q h b;simp only[du,a0m,a0X]at h;obtain⟨rfl,rfl⟩:=h;exact⟨b,a0a _,id⟩
 | succ n ih=>
  intro p T T' q h b;simp only[du]at h;rcases a:rdN V sz p 8 with _|⟨x,r⟩
  . rw[a]at h;cases h
  .
   rw[a]at h;simp only[a0g]at h;have c:=bh a;rcases h2:dT T ((x:Nat),0,0)with _|T2
   . rw[h2]at h;cases h
   . rw[h2]at h;simp only[a0g]at h;obtain⟨a1,a2,a3⟩:=ih r T2 T' q h c.1;exact⟨a1,by omega,fun _=>a3 (np h2)⟩
theorem zc(h:fJ V p=some q):p<=q/\q=p+(8-p%8)%8:=by
 unfold fJ at h
 split at h
 . simp only[a0m]at h;omega
 . cases h
theorem uV(h:dk V sz p T=some (T',q)):q<=sz/\p<=q/\(T.length<=300->T'.length<=300):=by
 unfold dk at h;rcases b:fJ V p with _|r
 . rw[b]at h;cases h
 rw[b]at h;simp only[a0g]at h;rcases h2:rdN V sz r 16 with _|⟨a,f⟩
 . rw[h2]at h;cases h
 rw[h2]at h;simp only[a0g]at h;rcases d:rdN V sz f 16 with _|⟨c,j⟩
 . rw[d]at h;cases h
 rw[d]at h;simp only[a0g]at h
 split at h
 . have g:=zc b;have i:=bh h2;have e:=bh d;obtain⟨a1,a2,a3⟩:=D5 _ _ _ _ _ h e.1;exact⟨a1,by omega,a3⟩
 . cases h
def lbG(V sz:Nat):List Nat->Nat->List Int->Option (List Int×Nat)
 | [],p,l=>some (l,p)
 | i :: is,p,l=>(rdN V sz p 3).bind fun x=>lbG V sz is x.2 (l.set i ((x.1:Nat):Int))
def iy(V sz many p:Nat):Option (List Int×Nat):=(lbG V sz (bS.take many) p (List.replicate 19 0)).bind fun x=>if ay x.1=true then some x else none
theorem Na: ∀(is:List Nat) (p:Nat) (l l':List Int) (q:Nat),lbG V sz is p l=some (l',q)->p<=sz->q<=sz/\p<=q/\l'.length=l.length:=by
 intro is;induction is with
 | nil=>
  intro p l l' q h b;simp only[lbG,a0m,a0X]at h;obtain⟨rfl,rfl⟩:=h;exact⟨b,a0a _,rfl⟩
 | cons i is ih=>
  intro p l l' q h b;simp only[lbG]at h;rcases a:rdN V sz p 3 with _|⟨x,r⟩
  . rw[a]at h;cases h
  . rw[a]at h;simp only[a0g]at h;have c:=bh a;obtain⟨a1,a2,a3⟩:=ih _ _ _ _ h c.1;exact⟨a1,by omega,by rw[a3,a16]⟩
theorem oV{many:Nat}{l:List Int}(h:iy V sz many p=some (l,q))(b:p<=sz):q<=sz/\p<=q/\ay l=true/\l.length=19:=by
 unfold iy at h;rcases a:lbG V sz (bS.take many) p (List.replicate 19 0)with _|⟨l1,c⟩
 . rw[a]at h;cases h
 .
  rw[a]at h;simp only[a0g]at h
  split at h
  . simp only[a0m,a0X]at h;obtain⟨rfl,rfl⟩:=h;obtain⟨a1,a2,a3⟩:=Na _ _ _ _ _ a b;exact⟨a1,a2,by assumption,by rw[a3];simp⟩
  . cases h
def dm(V sz:Nat)(A:List Int)(k:Int)(q:Nat):Option (List Int×Nat):=
 if k=16 then(if A.length=0 then none else(rdN V sz q 2).bind fun x=>some (A++List.replicate (3+x.1) (A.getD (A.length-1) 0),x.2))
 else if k=17 then(rdN V sz q 3).bind fun x=>some (A++List.replicate (3+x.1) 0,x.2)
 else if k=18 then(rdN V sz q 7).bind fun x=>some (A++List.replicate (11+x.1) 0,x.2)
 else some (A++[k],q)
def lnF(V sz:Nat)(B:List Int)(n:Nat):Nat->Nat->List Int->Option (List Int×Nat)
 | 0,_,_=>none
 | f+1,p,A=>if A.length<n then(dec B V sz p).bind fun k=>(dm V sz A k.1 k.2).bind fun x=>lnF V sz B n f x.2 x.1
  else if A.length=n then some (A,p)else none
def lnG(V sz:Nat)(B:List Int)(n p:Nat)(A:List Int):Option (List Int×Nat):=lnF V sz B n (sz+1-p) p A
theorem ky{A':List Int}{k:Int}{r:Nat}(h:dm V sz A k q=some (A',r))(hq:q<=sz):r<=sz/\q<=r/\A.length<A'.length/\A'.length<=A.length+138:=by
 unfold dm at h;have key:∀(bt c:Nat) (v:Int),bt<=7->c<=11->3<=c->(rdN V sz q bt).bind (fun x=>some (A++List.replicate (c+x.1) v,x.2))=some (A',r)->r<=sz/\q<=r/\A.length<A'.length/\A'.length<=A.length+138:=by
  intro bt c v b g e h;rcases a:rdN V sz q bt with _|⟨x,t⟩
  . rw[a]at h;cases h
  . rw[a]at h;simp only[a0g,a0m,a0X]at h;obtain⟨rfl,rfl⟩:=h;have d:=bh a;have f:2 ^ bt<=2 ^ 7:=a0W (by omega) b;refine⟨d.1,by omega,?_,?_⟩<;>simp only[a0o,a0A]<;>omega
 split at h
 .
  split at h
  . cases h
  . exact key 2 3 _ (by omega) (by omega) (by omega) h
 .
  split at h
  . exact key 3 3 _ (by omega) (by omega) (by omega) h
  .
   split at h
   . exact key 7 11 _ (by omega) (by omega) (by omega) h
   . simp only[a0m,a0X]at h;obtain⟨rfl,rfl⟩:=h;exact⟨hq,a0a _,by simp,by simp⟩
theorem IG: ∀(m f p:Nat) (A:List Int),sz+1-p<=m->sz+1-p<=f->p<=sz->lnF V sz B n f p A=lnF V sz B n (sz+1-p) p A:=by
 intro m;induction m with
 | zero=>intro f p A b h2 c;omega
 | succ m ih=>
  intro f p A b h2 c;obtain⟨f',rfl⟩:∃g,f=g+1:=⟨f-1,by omega⟩;obtain⟨m',hm⟩:∃g,sz+1-p=g+1:=⟨sz-p,by omega⟩;rw[hm];simp only[lnF]
  split
  .
   rcases hd:dec B V sz p with _|⟨i,q⟩
   . rfl
   .
    have hb:=eH hd;simp only[a0g];rcases d:dm V sz A i q with _|⟨A',r⟩
    . rfl
    . have a:=ky d hb.1;simp only[a0g];rw[ih f' r A' (by omega) (by omega) a.1,ih m' r A' (by omega) (by omega) a.1]
  . rfl
theorem ym(c:p<=sz)(h:A.length<n):lnG V sz B n p A=(dec B V sz p).bind fun k=>(dm V sz A k.1 k.2).bind fun x=>lnG V sz B n x.2 x.1:=by
 unfold lnG;obtain⟨m,hm⟩:∃g,sz+1-p=g+1:=⟨sz-p,by omega⟩;rw[hm];simp only[lnF,a0e h];rcases hd:dec B V sz p with _|⟨i,q⟩
 . rfl
 .
  have hb:=eH hd;simp only[a0g];rcases a:dm V sz A i q with _|⟨A',r⟩
  . rfl
  . have b:=ky a hb.1;simp only[a0g];exact IG m m r A' (by omega) (by omega) b.1
theorem yq(a:p<=sz)(h:¬ A.length<n):lnG V sz B n p A=if A.length=n then some (A,p)else none:=by
 unfold lnG;obtain⟨m,hm⟩:∃g,sz+1-p=g+1:=⟨sz-p,by omega⟩;rw[hm];simp only[lnF,a0d h]
theorem Nb: ∀(f p:Nat) (A A':List Int) (q:Nat),lnF V sz B n f p A=some (A',q)->p<=sz->q<=sz/\p<=q/\A'.length=n:=by
 intro f;induction f with
 | zero=>intro p A A' q h;simp[lnF]at h
 | succ f ih=>
  intro p A A' q h d;simp only[lnF]at h
  split at h
  .
   rcases hd:dec B V sz p with _|⟨i,r⟩
   . rw[hd]at h;cases h
   .
    rw[hd]at h;have hb:=eH hd;simp only[a0g]at h;rcases a:dm V sz A i r with _|⟨A2,g⟩
    . rw[a]at h;cases h
    . rw[a]at h;have e:=ky a hb.1;simp only[a0g]at h;obtain⟨b,h2,c⟩:=ih _ _ _ _ h e.1;exact⟨b,by omega,c⟩
  .
   split at h
   . simp only[a0m,a0X]at h;obtain⟨rfl,rfl⟩:=h;exact⟨d,a0a _,by assumption⟩
   . cases h
theorem Bp{A':List Int}(h:lnG V sz B n p A=some (A',q))(a:p<=sz):q<=sz/\p<=q/\A'.length=n:=Nb _ _ _ _ _ h a
def ri(V sz n:Nat)(A:List Int)(p:Nat)(T:List UInt8):Option (List UInt8×Nat):=
 if ay (A.take n)=true then(if ay (A.drop n)=true then gx V sz (A.take n) (A.drop n) p T else none)else none
def sB(V sz p:Nat)(T:List UInt8):Option (List UInt8×Nat):=
 (rdN V sz p 5).bind fun a=>(rdN V sz a.2 5).bind fun c=>if a.1+257<=286/\c.1+1<=30 then
  (rdN V sz c.2 4).bind fun m=>(iy V sz (m.1+4) m.2).bind fun B=>(lnG V sz B.1 (a.1+257+(c.1+1)) B.2 []).bind fun A=>ri V sz (a.1+257) A.1 A.2 T else none
def Ek(V sz p:Nat)(T:List UInt8):Option (List UInt8×Nat):=gx V sz (c9 288) (List.replicate 32 5) p T
def fS(V sz k p:Nat)(T:List UInt8):Option (List UInt8×Nat):=
 if k=0 then dk V sz p T else if k=1 then Ek V sz p T else if k=2 then sB V sz p T else none
theorem D2(h:ri V sz n A p T=some (T',q)):q<=sz/\p<q/\(T.length<=300->T'.length<=300):=by
 unfold ri at h
 split at h
 .
  split at h
  . exact wE h
  . cases h
 . cases h
theorem Do(h:sB V sz p T=some (T',q)):q<=sz/\p<=q/\(T.length<=300->T'.length<=300):=by
 unfold sB at h;rcases b:rdN V sz p 5 with _|⟨a,k⟩
 . rw[b]at h;cases h
 rw[b]at h;simp only[a0g]at h;rcases h2:rdN V sz k 5 with _|⟨c,l⟩
 . rw[h2]at h;cases h
 rw[h2]at h;simp only[a0g]at h
 split at h
 .
  rcases d:rdN V sz l 4 with _|⟨m,n⟩
  . rw[d]at h;cases h
  rw[d]at h;simp only[a0g]at h;rcases e:iy V sz (m+4) n with _|⟨B,o⟩
  . rw[e]at h;cases h
  rw[e]at h;simp only[a0g]at h;rcases f:lnG V sz B (a+257+(c+1)) o []with _|⟨A,u⟩
  . rw[f]at h;cases h
  rw[f]at h;simp only[a0g]at h;have r:=bh b;have s:=bh h2;have i:=bh d;have j:=oV e i.1;have t:=Bp f j.1;have g:=D2 h;exact⟨g.1,by omega,g.2.2⟩
 . cases h
theorem rK{k:Nat}(h:fS V sz k p T=some (T',q)):q<=sz/\p<=q/\(T.length<=300->T'.length<=300):=by
 unfold fS at h
 split at h
 . exact uV h
 .
  split at h
  . have:=wE h;exact⟨this.1,by omega,this.2.2⟩
  .
   split at h
   . exact Do h
   . cases h
def fY(V sz:Nat):Nat->Nat->List UInt8->Option (List UInt8×Nat)
 | 0,_,_=>none
 | f+1,p,T=>(rdN V sz p 1).bind fun a=>(rdN V sz a.2 2).bind fun k=>(fS V sz k.1 k.2 T).bind fun r=>if a.1=1 then some r else fY V sz f r.2 r.1
def fZ(V sz p:Nat)(T:List UInt8):Option (List UInt8×Nat):=fY V sz (sz+1-p) p T
def eK(V sz p:Nat)(T:List UInt8):Option (List UInt8×Nat):=(fZ V sz p T).bind fun r=>(fJ V r.2).bind fun q=>some (r.1,q)
theorem yX: ∀(n f p:Nat) (T:List UInt8),sz+1-p<=n->sz+1-p<=f->fY V sz f p T=fY V sz (sz+1-p) p T:=by
 intro n;induction n with
 | zero=>
  intro f p T d h2;have e:sz+1-p=0:=by omega
  rw[e];cases f with
  | zero=>rfl
  | succ f=>
   have hd:rdN V sz p 1=none:=dZ (by omega);simp only[fY,hd,a2e]
 | succ n ih=>
  intro f p T d h2;rcases hd:rdN V sz p 1 with _|⟨a,q⟩
  .
   cases f with
   | zero=>rw[show sz+1-p=0 by omega]
   | succ f=>
    rcases b:sz+1-p with _|m
    . simp only[fY,hd,a2e]
    . simp only[fY,hd,a2e]
  .
   have hb:=bh hd;obtain⟨f',rfl⟩:∃g,f=g+1:=⟨f-1,by omega⟩;obtain⟨m,b⟩:∃g,sz+1-p=g+1:=⟨sz-p,by omega⟩;rw[b];simp only[fY,hd,a0g];rcases j:rdN V sz q 2 with _|⟨k,o⟩
   . rfl
   .
    have h:=bh j;simp only[a0g];rcases l:fS V sz k o T with _|⟨T',c⟩
    . rfl
    .
     have i:=rK l;simp only[a0g]
     split
     . rfl
     . rw[ih f' c T' (by omega) (by omega),ih m c T' (by omega) (by omega)]
theorem p6: fZ V sz p T=(rdN V sz p 1).bind fun a=>(rdN V sz a.2 2).bind fun k=>(fS V sz k.1 k.2 T).bind fun r=>if a.1=1 then some r else fZ V sz r.2 r.1:=by
 rcases hd:rdN V sz p 1 with _|⟨a,q⟩
 .
  unfold fZ;rcases b:sz+1-p with _|m
  . rfl
  . simp only[fY,hd,a2e]
 .
  have hb:=bh hd;unfold fZ;obtain⟨m,b⟩:∃g,sz+1-p=g+1:=⟨sz-p,by omega⟩;rw[b];simp only[fY,hd,a0g];rcases e:rdN V sz q 2 with _|⟨k,h⟩
  . rfl
  .
   have c:=bh e;simp only[a0g];rcases f:fS V sz k h T with _|⟨T',i⟩
   . rfl
   .
    have d:=rK f;simp only[a0g]
    split
    . rfl
    . exact yX m m i T' (by omega) (by omega)
theorem Fz: ∀(f p:Nat) (T T':List UInt8) (q:Nat),fY V sz f p T=some (T',q)->q<=sz/\p<q/\(T.length<=300->T'.length<=300):=by
 intro f;induction f with
 | zero=>intro p T T' q h;simp[fY]at h
 | succ f ih=>
  intro p T T' q h;simp only[fY]at h;rcases hd:rdN V sz p 1 with _|⟨a,g⟩
  . rw[hd]at h;cases h
  rw[hd]at h;simp only[a0g]at h;rcases c:rdN V sz g 2 with _|⟨k,i⟩
  . rw[c]at h;cases h
  rw[c]at h;simp only[a0g]at h;rcases d:fS V sz k i T with _|⟨T2,m⟩
  . rw[d]at h;cases h
  rw[d]at h;simp only[a0g]at h;have j:=bh hd;have l:=bh c;have b:=rK d
  split at h
  . simp only[a0m,a0X]at h;obtain⟨rfl,rfl⟩:=h;exact⟨b.1,by omega,b.2.2⟩
  . have e:=ih _ _ _ _ h;exact⟨e.1,by omega,fun h=>e.2.2 (b.2.2 h)⟩
theorem FA(h:fZ V sz p T=some (T',q)):q<=sz/\p<q/\(T.length<=300->T'.length<=300):=Fz _ _ _ _ _ h
def RF(w:World)(b:Nat)(s:ByteArray)(p:Nat)(f:Bool):Prop:=Three w b (.string s) (.int .i64 (min p (8*s.size):Nat)) (.bool f)
theorem RF.lt(h:RF w b s p f):b<w.heap.size:=h.2.2.2.2.2.2
theorem RF.kept{w':World}(h:RF w b s p f)(hb:Below (b+1) w w'):RF w' b s p f:=Three.kept h hb
theorem mX(h:RF w b s p false)(a:p<=8*s.size):Rdr w b s p:=by
 unfold Rdr;rw[a0j (by omega)];exact h
theorem di(h:Rdr w b s p):RF w b s p (decide (8*s.size<p)):=h
theorem RF.cut(h:RF w b s p true):∃q,q<=8*s.size/\RF w b s q true:=⟨min p (8*s.size),a3f _ _,by unfold RF at h ⊢;rw[a1s (a3f p (8*s.size))];exact h⟩
theorem RF.setBad(h:RF w b s p f):RF (w.setCell ⟨b,2,none⟩ (.bool true)) b s p true:=Three.set2 h _
theorem RF.bad(h:RF w b s p f):w.cell? ⟨b,2,none⟩=some (.bool f)/\w.frozen? ⟨b,2,none⟩=false:=⟨h.2.2.1,h.2.2.2.2.2.1⟩
theorem gF(b p c:Nat)(f:Bool)(s:ByteArray)(w:World)(h:RF w b s p f)(j:f=false->p<=8*s.size)(i:s.size<=2000000)(g:c<=16) :
  Calls prog 232 #[.pointer (some ⟨b,0,none⟩),.int .i64 (c:Int)] w fun e w'=>e = .returned (.int .i64 (ai s/2 ^ p%2 ^ c:Nat))/\RF w' b s (p+c) (f || decide (8*s.size<p+c))/\aw b w w':=by
 cases f
 . exact(f9 b p c s w (mX h (j rfl)) i g).mono fun e w' ⟨a,h2,d⟩=>⟨a,by rw[a1Z];exact di h2,d⟩
 . exact(Ai b p c s w h i g).mono fun e w' ⟨a,h2,d⟩=>⟨a,by rw[a3i];exact h2,d⟩
theorem ou(b p:Nat)(f:Bool)(s:ByteArray)(w:World)(h:RF w b s p f)(d:p<=8*s.size)(g:s.size<=2000000) :
  Calls prog 219 #[.pointer (some ⟨b,0,none⟩)] w fun e w'=>e = .returned (.bool (decide (ai s/2 ^ p%2 ^ ((8-p%8)%8)=0)))/\RF w' b s (p+(8-p%8)%8) f/\aw b w w':=by
 cases f
 . exact(wB b p s w (mX h d) g d).mono fun e w' ⟨a,h2,c⟩=>⟨a,by have:=di h2;rwa[a0j (by omega)]at this,c⟩
 . exact(vD b p s w h g d).mono fun e w' ⟨a,h2,c⟩=>⟨a,h2,c⟩
theorem BV(a ac:Option Addr)(cap d n b p:Nat)(s:ByteArray)(w:World)(h:RF w b s p true) :
  Calls prog 254 #[.pointer (some ⟨b,0,none⟩),.slice a n cap,.slice ac n d] w fun e w'=>e = .returned (.int .i64 (-1))/\RF w' b s p true/\aw b w w':=by
 have c:=af h;obtain⟨c2,f2⟩:=h.bad;have f:=h.lt;clear h;go_enter func254,ntmps254;go_wp2_with fail
 go_loopw [6,7,8,9] (fun _ _ lg _ wr=>lg = .int .i64 1/\wr=w) (fun _ _ _ _ _=>0)
 case atStart=>exact⟨rfl,rfl⟩
 case round=>
  obtain⟨rfl,rfl⟩:=hrel;go_wp2;go_ret;exact⟨rfl,(ae c).setBad,bf _ _ _ _⟩
def nn(w:World)(b:Nat)(s:ByteArray)(d:Option (Int×Nat))(e:Ending)(w':World):Prop:=
 aw b w w'/\match d with
  | none=>∃x q,e = .returned (.int .i64 x)/\RF w' b s q true
  | some (i,q)=>e = .returned (.int .i64 i)/\Rdr w' b s q
theorem px(a ac:Option Addr)(cap cc n b p:Nat)(l:List Int)(s:ByteArray)(w:World)(hn:l.length=n)(T:ay l=true)
  (hs:s.size<=2000000) (hr:Rdr w b s p) (hp:p<=8*s.size) (a7:∀W,aw b w W->bn W a l) (a6:∀W,aw b w W->bn W ac (a8 l 15).2) :
  Calls prog 254 #[.pointer (some ⟨b,0,none⟩),.slice a n cap,.slice ac n cc] w (nn w b s (dec l (ai s) (8*s.size) p)):=by
 have Z:=af hn;have HS:=af hs;have aa:=af T;have bd:=af a7;have bc:=af a6;have b1:(n:Int)<=300:=by have:=bC T;omega
 clear hn hs T a7 a6;go_enter func254,ntmps254;go_wp2_with fail
 go_loopw [6,7,8,9] (fun _ c lg _ wr=>∃(N:Nat) (x:Int),N<=15/\lg = .int .i64 ((N:Int)+1)/\c = .int .i64 x/\aw b w wr/\((x=(cd (ai s) p N:Nat)/\nx l N<=cd (ai s) p N/\Rdr wr b s (p+N)/\p+N<=8*s.size/\dec l (ai s) (8*s.size) p=mx l (ai s) (8*s.size) p (15-N) N)∨(dec l (ai s) (8*s.size) p=none/\∃qv,RF wr b s qv true))) (fun _ _ lg _ _=>16-(intOf lg).toNat)
 case atStart=>exact⟨0,0,by omega,rfl,rfl,aw.refl _ _,.inl ⟨rfl,a0a _,hr,by omega,rfl⟩⟩
 case round=>
  obtain⟨N,x,hN,rfl,rfl,u,Q⟩:=hrel;clear hr hp;have bs:(N:Int)<=15:=by omega
  rcases Q with⟨rfl,D,A,U,H⟩|⟨a5,qv,al⟩
  .
   have h3:=A.at U;obtain⟨q0,q1,q2,g0,g1,g2,an⟩:=h3;have HP:=af U;have bb:=af D;have Y:=af H;have c1:=af (GX (ai s) p N hN);have cI:(cd (ai s) p N:Int)<=32768:=by have:=ae c1;omega
   clear U D H;by_cases S:N<15
   .
    have G:decide ((N:Int)+1<=15)=true:=a0w (by omega);have F:(ai s/2 ^ (p+N)%2:Nat)=tB (ai s) (p+N):=rfl;have be:Hid (2*(cd (ai s) p N:Int)+(tB (ai s) (p+N):Int)=(cd (ai s) p (N+1):Int)):=by
     show 2*(cd (ai s) p N:Int)+(tB (ai s) (p+N):Int)=(cd (ai s) p (N+1):Int);simp only[cd];omega
    have a0:Hid (2*nx l N<=cd (ai s) p (N+1)):=by
     show 2*nx l N<=cd (ai s) p (N+1);have:=ae bb;simp only[cd];omega
    have ad:=af (fun d h2=>rp (l:=l) (V:=ai s) (sz:=8*s.size) (p:=p) (f:=14-N) (n:=N) d h2);have P:=af (fun d h2=>oB (l:=l) (V:=ai s) (sz:=8*s.size) (p:=p) (f:=14-N) (n:=N) d h2);have r:=af (fun d=>my (l:=l) (V:=ai s) (sz:=8*s.size) (p:=p) (f:=14-N) (n:=N) d);have e15:15-N=(14-N)+1:=by omega
    have e14:14-N=15-(N+1):=by omega
    rw[e15]at Y;have bI:(tB (ai s) (p+N):Int)<=1:=by omega
    clear g0 g1 g2 q0 q1 an;go_wp2_with fail;refine(jY b (p+N) s _ A (ae HS)).mono ?_;rintro e x1 ⟨rfl,K,a4⟩;rw[F];have t:=u.trans a4;have M:=af (ae bd x1 t);have L:=af (ae bc x1 t);have m:=af t;have B:=af K;clear A u a4 t K F q2;go_wp2_with fail;rw[ae be]
    go_loopw [6,9] (fun _ i wr=>∃k:Nat,k<=n/\i = .int .i64 k/\wr=x1/\∀j,j<k->l.getD j 0=(N:Int)+1->cY l j≠cd (ai s) p (N+1)) (fun _ i _=>n-(intOf i).toNat)
    case atStart=>exact⟨0,a0h _,rfl,rfl,fun j hj=>absurd hj (by omega)⟩
    case round=>
     obtain⟨k,hk,rfl,rfl,J⟩:=hrel;have O:=af J;clear J;by_cases R:k<n
     .
      have E:Hid (k<l.length):=by show k<l.length;rw[ae Z];exact R
      obtain⟨g,o,rfl,hg,a3⟩:=ae M (by rw[ae Z];omega);have d0:=a3 k (by rw[ae Z];exact R);obtain⟨g',o',rfl,b0,ao⟩:=ae L (by rw[bK,ae Z];omega);have d1:=ao k (by rw[bK,ae Z];exact R);have a1:=af (ub (ae aa) (ae E));have Hk:=af hk;have hY:=af (fun h=>tY (ae aa) (ae E) h);have bk:=af (fun(i:Nat) (d:l.getD i 0=l.getD k 0) (h2:cY l i=cY l k)=>DC d h2);clear a3 ao hk M L;generalize a9:l.getD k 0=y at *
      have EY:=af a9;clear a9;by_cases hy:y=(N:Int)+1
      .
       have a2:(a8 l 15).2.getD k 0=(cY l k:Int):=by have:=ae a1;rw[a0e (by omega)]at this;exact this
       rw[a2]at d1;subst hy;by_cases hc:cY l k=cd (ai s) p (N+1)
       .
        have z:=ae hY (by omega);have eN:((N:Int)+1).toNat=N+1:=by omega
        rw[eN]at z;rw[hc]at d1;have ab:Hid (nn w b s (dec l (ai s) (8*s.size) p) (.returned (.int .i64 (k:Int))) wr):=by
         show nn w b s (dec l (ai s) (8*s.size) p) (.returned (.int .i64 (k:Int))) wr;refine⟨ae m,?_⟩;by_cases q:8*s.size<p+N+1
         . rw[ae Y,ae r q];exact⟨_,_,rfl,(ae B).three q⟩
         .
          have I:cd (ai s) p (N+1)<nx l (N+1):=by rw[←hc];exact z.2
          rw[ae Y,ae ad q I];obtain⟨i,hi,d,h2,h3⟩:=pw (l:=l) S (ae a0) I;have:i=k:=DC (d.trans (ae EY).symm) (h2.trans hc.symm);subst this;exact⟨by rw[h3],ae B⟩
        clear z;generalize cd (ai s) p (N+1)=X at *
        go_wp2;go_ret;exact ae ab
       .
        have g1:((cY l k:Int) == (cd (ai s) p (N+1):Int))=false:=by rw[a03];omega
        have v:Hid (∀j,j<k+1->l.getD j 0=(N:Int)+1->cY l j≠cd (ai s) p (N+1)):=by
         show ∀j,j<k+1->l.getD j 0=(N:Int)+1->cY l j≠cd (ai s) p (N+1);intro j hj d;by_cases e:j=k
         . subst e;exact hc
         . exact ae O j (by omega) d
        go_wp2;go_roundw
        case rel=>exact⟨k+1,by have:=ae Hk;omega,by go_num,by first|rfl|trivial,ae v⟩
        case measure=>simp[intOf];omega
      .
       have g1:(y == (N:Int)+1)=false:=by simpa using hy
       have v:Hid (∀j,j<k+1->l.getD j 0=(N:Int)+1->cY l j≠cd (ai s) p (N+1)):=by
        show ∀j,j<k+1->l.getD j 0=(N:Int)+1->cY l j≠cd (ai s) p (N+1);intro j hj d;by_cases e:j=k
        . subst e;rw[ae EY]at d;exact absurd d hy
        . exact ae O j (by omega) d
       go_wp2;go_roundw
       case rel=>exact⟨k+1,by have:=ae Hk;omega,by go_num,by first|rfl|trivial,ae v⟩
       case measure=>simp[intOf];omega
     .
      have E:k=l.length:=by have:=ae Z;omega
      subst E;have ba:Hid ((cd (ai s) p (N+1):Int)=((cd (ai s) p (N+1):Nat):Int)/\((nx l (N+1)<=cd (ai s) p (N+1)/\Rdr wr b s (p+(N+1))/\p+(N+1)<=8*s.size/\dec l (ai s) (8*s.size) p=mx l (ai s) (8*s.size) p (15-(N+1)) (N+1))∨(dec l (ai s) (8*s.size) p=none/\∃qv,RF wr b s qv true))):=by
       refine⟨rfl,?_⟩;by_cases q:8*s.size<p+N+1
       . exact .inr ⟨by rw[ae Y,ae r q],_,(ae B).three q⟩
       .
        have D:nx l (N+1)<=cd (ai s) p (N+1):=by
         rcases a1z (cd (ai s) p (N+1)) (nx l (N+1))with h|h
         . obtain⟨i,hi,d,h2,h3⟩:=pw (l:=l) S (ae a0) h;exact absurd h2 (ae O i hi d)
         . exact h
        exact .inl ⟨D,ae B,by omega,by rw[ae Y,ae P q (by omega),e14]⟩
      clear M L;go_wp2;go_roundw
      case rel=>
       refine⟨N+1,(cd (ai s) p (N+1):Nat),by omega,by go_num,rfl,ae m,?_⟩;rcases (ae ba).2 with h|h
       . exact .inl ⟨rfl,h⟩
       . exact .inr h
      case measure=>simp[intOf];omega
   .
    obtain rfl:N=15:=by omega
    have Hn:Hid (dec l (ai s) (8*s.size) p=none):=ae Y;have C:=af (di A);have m:=af u;clear A u;go_wp2;go_ret;unfold nn;rw[ae Hn];exact⟨(ae m).trans (bf _ _ _ _),_,_,rfl,(ae C).setBad⟩
  .
   have h3:Three wr b (.string s) (.int .i64 (min qv (8*s.size):Nat)) (.bool true):=al;have C:=af al;have m:=af u;have Hn:=af a5;obtain⟨q0,q1,q2,g0,g1,g2,an⟩:=h3;clear u a5;by_cases S:(N:Int)<15
   . have G:decide ((N:Int)+1<=15)=true:=a0w (by omega);go_wp2;go_ret;unfold nn;rw[ae Hn];exact⟨(ae m).trans (bf _ _ _ _),_,_,rfl,(ae C).setBad⟩
   . have G:decide ((N:Int)+1<=15)=false:=a0j (by omega);go_wp2;go_ret;unfold nn;rw[ae Hn];exact⟨(ae m).trans (bf _ _ _ _),_,_,rfl,(ae C).setBad⟩
end Go.Proofs.YtkdlcomfpffhhaaGreatDoor
