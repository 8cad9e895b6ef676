/- Of what the proof is made: 6 texts, one behind the other. -/
import Derived.Test.YtkdlcomfpffhhaaGreatDoorM28
import Derived.Test.YtkdlcomfpffhhaaGreatDoorM43
import Derived.Test.YtkdlcomfpffhhaaGreatDoorM40
import Derived.Test.YtkdlcomfpffhhaaGreatDoorM31
import Derived.Test.YtkdlcomfpffhhaaGreatDoorM32
import Derived.Test.YtkdlcomfpffhhaaGreatDoorM6
import Derived.Test.YtkdlcomfpffhhaaGreatDoorM2
import Derived.Test.YtkdlcomfpffhhaaGreatDoorM44
import Derived.Deep.RegionWith
import Derived.Test.YtkdlcomfpffhhaaGreatDoorM27
import Derived.Test.YtkdlcomfpffhhaaGreatDoorM26
import Derived.Test.YtkdlcomfpffhhaaGreatDoorM33
import Derived.Test.YtkdlcomfpffhhaaGreatDoorM36
import Derived.BigQuiet
import Derived.Deep.QuietTactic
set_option maxRecDepth 100000
set_option linter.unusedSimpArgs false
set_option linter.unusedVariables false
set_option maxHeartbeats 12800000
namespace Go.Proofs.YtkdlcomfpffhhaaGreatDoor
open Go.Proofs.Tryz
open Go.RowKit Corb
def enF(e:En):Fl:=⟨e.n,e.t⟩
def bG(l:List Fl)(fs:List En):List Fl:=fs.foldl (fun t e=>bH t (enF e)) l
def aY(l:List Fl)(s:ByteArray):List Fl×Int:=
 if (bR s).isSome=true/\cH l=true then
  if 8<(bG l ((bR s).getD [])).length then(l,4)else if cH (bG l ((bR s).getD []))=true then(bG l ((bR s).getD []),0)else(l,3)
 else([],1)
theorem zH{l:List Fl}(h:cH l=true)(i:Nat)(a:i<l.length):lX l i=true:=by
 unfold cH at h;rw[a0n]at h;exact a06.1 h.1 i (List.mem_range.2 a)
theorem tm{l:List Fl}(h:cH l=true):l.length<=8:=by
 unfold cH at h;rw[a0n]at h;simpa using h.2
theorem lQ{l:List Fl}(h:cH l=true):eR l:=by
 unfold eR;rw[List.pairwise_iff_getElem];intro i j b d c;have:=Kc (l:=l) l.length (fun i b=>by
  have a:=zH h i b;unfold lX at a;rw[a0n,a0n]at a;exact a.2.1) j d i c
 simpa[pA,b,d]using this
def jE(f:Fl):Prop:=f.p.size<=43/\f.t.size<=300
theorem ni{l:List Fl}(h:cH l=true):∀f∈l,jE f:=by
 intro f c;obtain⟨i,b,rfl⟩:=List.mem_iff_getElem.1 c;have a:=zH h i b;unfold lX qe at a;rw[a0n,a0n]at a;have h2:=a.1;have e:l.getD i default=l[i]:=by simp[b]
 unfold pA at h2;rw[e]at h2;exact⟨by have:=sr h2.1;simpa using this,by simpa using h2.2⟩
theorem pF{s:ByteArray}{fs:List En}(h:bR s=some fs):fs.length<=6/\∀e∈fs,jE (enF e):=by
 obtain⟨m,q,_,rfl,f,_⟩:=jz h;refine⟨(gW f).2,fun e g=>?_⟩;obtain⟨i,d,rfl⟩:=List.mem_iff_getElem.1 g;have c:=(gW f).1 i d;have e:q.1.getD i default=q.1[i]:=by simp[d]
 rw[e]at c;obtain⟨a,b,_⟩:=ee (n:=q.1[i].n) (t:=q.1[i].t) c;exact⟨a,b⟩
theorem uB{l:List Fl}(h:eR l)(fs:List En):eR (bG l fs):=by
 induction fs generalizing l with
 | nil=>exact h
 | cons e fs ih=>exact ih (FH _ h)
theorem nK(l:List Fl)(fs:List En):(bG l fs).length<=l.length+fs.length:=by
 induction fs generalizing l with
 | nil=>exact a0a _
 | cons e fs ih=>
  have a:=ih (bH l (enF e));have h2:=Jr l (enF e);simp only[bG,List.foldl_cons,a0J]at a ⊢;omega
theorem mL{l:List Fl}{fs:List En}(h:∀f∈l,jE f)(b:∀e∈fs,jE (enF e)):∀f∈bG l fs,jE f:=by
 induction fs generalizing l with
 | nil=>exact h
 | cons e fs ih=>
  refine ih (fun f a=>?_) (fun e c=>b e (a10 _ c));rcases sL a with rfl|a
  . exact b e (by simp)
  . exact h f a
theorem qf{l:List Fl}{n:Nat}(d:l.length=n)(h:∀f∈l,jE f):mq l n:=by
 intro i c;have a:i<l.length:=by omega
 have e:l.getD i default=l[i]:=by simp[a]
 obtain⟨b,h2⟩:=h l[i] (a1A a);unfold pA;rw[e];exact⟨by omega,by omega⟩
theorem uE{l:List Fl}(h:eR l)(k:Nat):(l.take k).foldl bH []=l.take k:=by
 have:=FJ (a:=[]) (l:=l.take k) (by rw[a1v];exact List.Pairwise.sublist (List.take_sublist k l) h);simpa using this
theorem uD(l:List Fl)(fs:List En)(k:Nat)(h:k<fs.length):bG l (fs.take (k+1))=bH (bG l (fs.take k)) (enF (fs.getD k default)):=by
 unfold bG;rw[a1i h,a3p];simp[h]
end Go.Proofs.YtkdlcomfpffhhaaGreatDoor
namespace Go
open Go.RowKit
theorem eO{P:Program}(w:World){ops:Array Oper}{rest:List Oper}{o:Oper}{a:Act}{Q:Exit->Act->World->Prop}(p:o.guard=none)(s x:Operand)(t:TypeId)
  (E:o.op = .call { callee:=.builtin .append,args:=#[s,x],argTypes:=#[t,t] })
  (base:Nat) (e:TypeId) (i:TypeInfo) (z:Value) (size bytes:Nat) (G:P.underlying t=some (.slice e)) (C:P.info? e=some i) (N:i.zero=some z)
  (l:i.size=size) (y:i.bytes=bytes) (B:z.cells.size=size) (A:0<size)
  (v:Value) (n:Nat) (xs:List Value) (F:a.eval s=v) (b:w.ownsRow base e size v n xs)
  (vx:Value) (base' m:Nat) (news:List Value) (H:a.eval x=vx) (c:w.ownsRow base' e size vx m news) (K:∀u∈news,u.oneCell'=true)
  (r:n+m<=maxLen) (d:(n+m)*bytes<=140737488355328) (f:base<=w.heap.size)
  (h:∀v' w',w'.ownsRow base e size v' (n+m) (xs++news)->w.grownBy w' v.ownBlock->(v ≠ .slice none 0 0->v' ≠ .slice none 0 0)->wpList P ops Q rest (a.put o.dst v') w'):wpList P ops Q (o :: rest) a w:=by
 have D:=c.1;rcases c.2 with⟨e0,J⟩|⟨g,cap,I,e0,O⟩
 . subst J;have q:news=[]:=List.eq_nil_of_length_eq_zero (by rw[D];simp);subst q;refine wpList_append_own_none p s x t E base e i size G C v n xs F b (H.trans e0) ?_;refine h v w ?_ (World.grownBy.same _ _) id;rw[List.append_nil,Nat.add_zero];exact b
 . subst e0;have j:=World.ownsRow.cells c rfl;exact wpList_append_own w p s x t E base e i z size bytes G C N l y B A v n xs F b ⟨g,0,none⟩ m cap news H D j K r d f fun v' w' h2 L M=>h v' w' h2 L fun k e=>k (M.1 e).1
end Go
namespace Go.Proofs.YtkdlcomfpffhhaaGreatDoor
open Go.Proofs.Tryz
open Go.RowKit Corb
variable {x:ByteArray}
theorem uL{w:World}{base c n:Nat}{T:TypeId}{v:Value}{xs:List Value}(h:w.ownsRow base T c v n xs)(b:v ≠ .slice none 0 0):∃g cap,v = .slice (some ⟨g,0,none⟩) n cap:=by
 rcases h.2 with⟨e,_⟩|⟨g,cap,a,e,_⟩
 . exact absurd e b
 . exact⟨g,cap,e⟩
theorem BN{l:List Fl}(h:∀f∈l,jE f):fh l:=fun f a=>by
 obtain⟨b,h2⟩:=h f a;exact⟨by omega,by omega⟩
theorem pr(a:Option Addr)(cap n y:Nat)(l:List Fl)(s:ByteArray)(hn:l.length=n)(w:World)(h:eQ w y (.slice a n cap) l)(hl:(n:Int)<=1048576)(hs:mq l n)(A:s.size<=1048576) :
  Calls prog 13 #[.slice a n cap,.string s] w fun e w'=>(∃v,e = .returned (.tuple #[v,.int .i64 (aY l s).2])/\eQ w' w.heap.size v (aY l s).1)/\Below w.heap.size w w':=by
 have ck:prog.follows .mixedOrders=true:=by kernel_rfl
 obtain⟨i0,hi,ba,bb,bc⟩:=a0s Tryz.infoFile;have CZ:=af (sW s w A);have Y:=af hn;have a4:=af (fun W (hb:Below w.heap.size w W)=>aN.later h hb (a0a _));have HR:=af (fz hn h);have HS:=af hs;clear hn h hs A;go_enter func13,ntmps13;go_wp2_with fail;refine(ae CZ).mono ?_;rintro e x1 ⟨⟨v,rfl,H⟩,b6⟩;have bd:=af b6;obtain⟨fs,hfs⟩:∃fs,(bR s).getD []=fs:=⟨_,rfl⟩;rw[hfs]at H;obtain⟨N,hN⟩:∃N,fs.length=N:=⟨_,rfl⟩;obtain⟨va,vc,rfl,d7,_⟩:=H.formN hN;have HV:=af H;have bs:=af hfs;have x:=af hN;clear H b6 hfs hN CZ;obtain⟨zb,hzb⟩:∃zb,(bR s).isSome=zb:=⟨_,rfl⟩;rw[hzb];have HZ:=af hzb;clear hzb;go_wp2_with fail;refine(fK a cap l n (ae Y) _ ((ae HR).later (ae bd)) hl (ae HS)).mono ?_;rintro e x2 ⟨rfl,a5⟩;have be:=af (am (ae bd) a5);have b1:=af ((ae HV).later a5 (a0a _));clear a5 HV;have al:=(ae be).size;have P:Hid (Below w.heap.size w (x2.alloc (.cells #[] 28))):=(ae be).alloc al _;have I:Hid (eQ (x2.alloc (.cells #[] 28)) w.heap.size (.slice (some ⟨x2.heap.size,0,none⟩) 0 0) []):=a0P x2 #[] 0 al (by unfold maxLen;omega) rfl;cases ht:cH l
 .
  have HT:Hid (aY l s=([],1)):=by
   show _=_;unfold aY;rw[ht];simp
  clear ht;go_wp2
  go_ret2
  rw[ae HT];exact⟨⟨_,rfl,ae I⟩,ae P⟩
 .
  cases zb
  .
   have HT:Hid (aY l s=([],1)):=by
    show _=_;unfold aY;rw[ae HZ];simp
   clear ht;go_wp2
   go_ret2
   rw[ae HT];exact⟨⟨_,rfl,ae I⟩,ae P⟩
  .
   have HT:=af ht;have d4:n<=8:=by rw[←ae Y];exact tm ht
   have dv:(n:Int)<=8:=by omega
   have cr:=af (ni ht);have d5:=af (lQ ht);have aa:=af (pF (show bR s=some fs by
    have C:=ae bs;cases h2:bR s with
    | none=>have h3:=ae HZ;rw[h2]at h3;cases h3
    | some q=>rw[h2]at C;exact congrArg some C))
   have d0:N<=6:=by rw[←ae x];exact(ae aa).1
   have d1:(N:Int)<=6:=by omega
   clear ht;have co:=ae I;have ao:=aN.own (ae Y) (ae a4 _ (ae P));have b2:∀u∈l.flatMap aM,u.oneCell'=true:=by
    intro u hu;obtain⟨f,_,hf⟩:=List.mem_flatMap.1 hu;exact cW f u hf
   have c:Hid (0+n<=maxLen/\(0+n)*32<=140737488355328):=by
    show _/\_;unfold maxLen;omega
   have a0:=af b2;clear b2;go_wp2_with (at_builtin;refine eO _ rfl (.tmp 23) (.tmp 24) 23 rfl w.heap.size 28 i0 (.agg #[.string ⟨#[]⟩,.string ⟨#[]⟩]) 2 32 a0M hi ba bb bc rfl (by decide) _ _ _ rfl co _ y n _ rfl ao (ae a0) (ae c).1 (ae c).2 (by simp;omega) ?_;intro v3 x3 X z U);have a6:=Below.grown (ae P) z (by simp;omega) (fun j hj=>(a0p (ae I) j hj).1);have cp:eQ x3 w.heap.size v3 l:=by
    have C:=X;simp only[a2s,a1v,a04,a0B]at C;show World.ownsRow _ _ _ _ _ l.length _;rw[ae Y];exact C
   have an:v3 ≠ .slice none 0 0:=U (fun e=>nomatch e);have bk:=af a6;have c8:=af cp;have cu:=af an;have O:=a6.size;have dl:Hid (∀W,Below x3.heap.size x3 W->ie W w.heap.size (.slice va N vc) fs):=fun W r=>by
    refine aN.later (w:=x3) ?_ r (a0a _);exact a1y (a0k (ae b1) (.cells #[] 28)) z (j9 (a0k (ae b1) (.cells #[] 28)) (ae I) (by decide))
   clear X z U a6 cp an co ao I P
   go_loopw [8,9] (fun o i wr=>∃k:Nat,k<=N/\i = .int .i64 k/\eQ wr w.heap.size o (bG l (fs.take k))/\o ≠ .slice none 0 0/\Below x3.heap.size x3 wr) (fun _ i _=>N-(intOf i).toNat)
   case atStart=>exact⟨0,a0h _,rfl,ae c8,ae cu,a0c _ _⟩
   case round=>
    obtain⟨k,hk,rfl,hq,ab,B⟩:=hrel;by_cases d3:k<N
    .
     obtain⟨g,o,rfl,hg,b8⟩:=im (ae x) (ae dl _ B) (by have:=ae x;omega);obtain⟨c0,c1,c2,c3,c4,c5,c6,c7⟩:=b8 k (by have:=ae x;omega);have cs:=af (uD l fs k (by have:=ae x;omega));obtain⟨L,hL⟩:∃L,bG l (fs.take k)=L:=⟨_,rfl⟩;obtain⟨M,hM⟩:∃M,L.length=M:=⟨_,rfl⟩;have b4:M<=14:=by
      rw[←hM,←hL];have C:=nK l (fs.take k);have h2:=ae Y;have h3:(fs.take k).length<=6:=by rw[a0t];have:=ae x;omega
      omega
     have b5:=af (BN (mL (ae cr) (fun e he=>(ae aa).2 e (a19 he)) (fs:=fs.take k)));have cq:=af ((ae aa).2 (fs.getD k default) (by
      have:k<fs.length:=by have:=ae x;omega
      simp[this]))
     rw[hL]at hq cs b5;obtain⟨og,oc,rfl⟩:=uL (aN.own hM hq) ab;obtain⟨_,_,e9,ac,_⟩:=aN.formN hM hq;cases e9
     have HM:=af hM;have Hk:=af hk;clear b8 hk hL hM;generalize fs.getD k default=en at *
     have ds:(k:Int)<(N:Int):=by omega
     have d2:(k:Int)<=6:=by omega
     have cc:qW wr og L:=sD (by have C:=hq;rw[←ae HM]at C;exact C);have HP:=af (fun W (r:Below wr.heap.size wr W)=>pT og oc M L en.n en.t W (ae HM) (cc.later r) (by omega) ac (ae b5) (by have:=(ae cq).1;simp only[enF]at this;omega) (by have:=(ae cq).2;simp only[enF]at this;omega));have HB:=af B;have r:Below wr.heap.size wr wr.drew:=(a0c _ _).drew;have HW:=af r;clear hq cc ab B r ac;go_wp2_with fail;refine a0H (S:=fun W=>W.cell? ⟨g,o+k*8,none⟩=some (.string en.n)/\W.cell? ⟨g,o+k*8+7,none⟩=some (.string en.t)) ck ⟨c0,c7⟩ (fun A=>?_);refine dP 0 (.slice (some ⟨og,0,none⟩) M oc) rfl (fun W r=>by go_simp) A ?_;refine dP 1 (.slice (some ⟨g,o,none⟩) N vc) rfl (fun W r=>by go_simp) A ?_;refine dP 2 (.int .i64 (k:Nat)) rfl (fun W r=>by go_simp) A ?_;refine dP 3 (.pointer (some ⟨g,o+k*8,none⟩)) rfl (fun W r=>by go_simp) A ?_;refine dP 4 (.pointer (some ⟨g,o+k*8,none⟩)) rfl (fun W r=>by go_simp) A ?_;refine dP 5 (.string en.n) rfl (fun W r=>by obtain⟨s0,s1⟩:=r;go_simp) A ?_;refine dP 6 (.slice (some ⟨g,o,none⟩) N vc) rfl (fun W r=>by go_simp) A ?_;refine dP 7 (.int .i64 (k:Nat)) rfl (fun W r=>by go_simp) A ?_;refine dP 8 (.pointer (some ⟨g,o+k*8,none⟩)) rfl (fun W r=>by go_simp) A ?_;refine dP 9 (.pointer (some ⟨g,o+k*8+7,none⟩)) rfl (fun W r=>by go_simp) A ?_;refine dP 10 (.string en.t) rfl (fun W r=>by obtain⟨s0,s1⟩:=r;go_simp) A ?_;refine dP 11 (.agg #[.string en.n,.string en.t]) rfl (fun W r=>by go_simp) A ?_;refine sP 12 fun K hK=>?_;go_simp;go_at_call 40;refine(ae HP _ (ae HW)).mono ?_;rintro e x4 ⟨⟨v4,L4,rfl,_,a9,cm,_,rfl⟩,b7⟩;have Z:Below wr.heap.size wr x4:=am (ae HW) b7;have ch:bG l (fs.take (k+1))=bH L ⟨en.n,en.t⟩:=ae cs;rw[←ch]at a9;have d6:=(ae HB).size;refine a0f hK _ _ ⟨(Z.cell (p:=⟨g,o+k*8,none⟩) hg).trans c0,(Z.cell (p:=⟨g,o+k*8+7,none⟩) hg).trans c7⟩ (fun A=>?_);clear hK K;have cy:=af (aN.mono a9 (show w.heap.size<=wr.drew.heap.size by show w.heap.size<=wr.heap.size;have:=O;omega));have cv:=af cm;have ct:=af ((ae HB).trans (Z.mono (ae HB).size));clear a9 cm b7 Z ch HP HW;refine dP 13 v4 rfl (fun W r=>by go_simp) A ?_;refine a0u (by kernel_rfl) ?_ _;go_wp2;go_roundw
     case rel=>exact⟨k+1,by omega,by go_num,ae cy,ae cv,ae ct⟩
     case measure=>simp[intOf];omega
    .
     have cg:fs.take k=fs:=a0D (by rw[ae x];omega);rw[cg]at hq;obtain⟨L,hL⟩:∃L,bG l fs=L:=⟨_,rfl⟩;obtain⟨M,hM⟩:∃M,L.length=M:=⟨_,rfl⟩;have b4:M<=14:=by
      rw[←hM,←hL];have C:=nK l fs;have h2:=ae Y;have h3:=ae x;omega
     have b3:=af (mL (ae cr) (ae aa).2);rw[hL]at hq b3;obtain⟨og,oc,rfl⟩:=uL (aN.own hM hq) ab;obtain⟨_,_,e9,ac,_⟩:=aN.formN hM hq;cases e9
     have V:Hid (bG l ((bR s).getD [])=L):=by show _=_;rw[ae bs];exact hL
     have J:=af hM;have E:=af ((ae bk).trans (B.mono (ae bk).size));have HQ:=af hq;clear hq hL hM ab B cg ac;by_cases R:8<M
     .
      have dq:(8:Int)<(M:Int):=by omega
      have Q:Hid (aY l s=(l,4)):=by
       show _=_;unfold aY;rw[a0e ⟨ae HZ,ae HT⟩,ae V,a0e (by rw[ae J];exact R)]
      have T:=(ae E).size;have D:Hid (Below w.heap.size w (wr.alloc (.cells #[] 28))):=(ae E).alloc T _;have G:eQ (wr.alloc (.cells #[] 28)) w.heap.size (.slice (some ⟨wr.heap.size,0,none⟩) 0 0) []:=a0P wr #[] 0 T (by unfold maxLen;omega) rfl;have m:=aN.own (ae Y) (ae a4 _ (ae D));have a2:=af G;go_wp2_with (at_builtin;refine eO _ rfl (.tmp 49) (.tmp 50) 23 rfl w.heap.size 28 i0 (.agg #[.string ⟨#[]⟩,.string ⟨#[]⟩]) 2 32 a0M hi ba bb bc rfl (by decide) _ _ _ rfl G _ y n _ rfl m (ae a0) (ae c).1 (ae c).2 (by simp;omega) ?_;intro v6 x6 d b F;clear F);have a1:=af (Below.grown (ae D) b (by simp;omega) (fun j hj=>(a0p (ae a2) j hj).1));have a3:Hid (eQ x6 w.heap.size v6 l):=by
       have C:=d;simp only[a2s,a1v,a04,a0B]at C;show World.ownsRow _ _ _ _ _ l.length _;rw[ae Y];exact C
      clear d b G m D;go_wp2
      go_ret2
      rw[ae Q];exact⟨⟨_,rfl,ae a3⟩,ae a1⟩
     .
      have dz:(M:Int)<=8:=by omega
      have b0:=af (fK (some ⟨og,0,none⟩) oc L M (ae J) wr (fz (ae J) (ae HQ)) (by omega) (qf (ae J) (ae b3)));go_wp2_with fail;refine(ae b0).mono ?_;rintro e x5 ⟨rfl,a7⟩;have E:=af (am (ae E) a7);have dd:=af (aN.later (ae HQ) a7 (a0a _));clear a7 b0 HQ;cases ad:cH L
      .
       have Q:Hid (aY l s=(l,3)):=by
        show _=_;unfold aY;rw[a0e ⟨ae HZ,ae HT⟩,ae V,a0d (by rw[ae J];exact R),a0d (by rw[ad];decide)]
       clear ad;have T:=(ae E).size;have D:Hid (Below w.heap.size w (x5.alloc (.cells #[] 28))):=(ae E).alloc T _;have G:eQ (x5.alloc (.cells #[] 28)) w.heap.size (.slice (some ⟨x5.heap.size,0,none⟩) 0 0) []:=a0P x5 #[] 0 T (by unfold maxLen;omega) rfl;have m:=aN.own (ae Y) (ae a4 _ (ae D));have a2:=af G;go_wp2_with (at_builtin;refine eO _ rfl (.tmp 56) (.tmp 57) 23 rfl w.heap.size 28 i0 (.agg #[.string ⟨#[]⟩,.string ⟨#[]⟩]) 2 32 a0M hi ba bb bc rfl (by decide) _ _ _ rfl G _ y n _ rfl m (ae a0) (ae c).1 (ae c).2 (by simp;omega) ?_;intro v6 x6 d b F;clear F);have a1:=af (Below.grown (ae D) b (by simp;omega) (fun j hj=>(a0p (ae a2) j hj).1));have a3:Hid (eQ x6 w.heap.size v6 l):=by
        have C:=d;simp only[a2s,a1v,a04,a0B]at C;show World.ownsRow _ _ _ _ _ l.length _;rw[ae Y];exact C
       clear d b G m D;go_wp2
       go_ret2
       rw[ae Q];exact⟨⟨_,rfl,ae a3⟩,ae a1⟩
      .
       have Q:Hid (aY l s=(L,0)):=by
        show _=_;unfold aY;rw[a0e ⟨ae HZ,ae HT⟩,ae V,a0d (by rw[ae J];exact R),a0e ad]
       clear ad;go_wp2
       go_ret2
       rw[ae Q];exact⟨⟨_,rfl,ae dd⟩,ae E⟩
theorem jo(a:Option Addr)(cap n:Nat)(l:List Fl)(s:ByteArray)(hn:l.length=n)(m:Int)(w:World)(h:lU w a l)(hl:(n:Int)<=1048576)(b1:(n:Int)<=(cap:Int))(hs:mq l n)
  (hS:s.size<=1048576) (hm:w.cell? ⟨2,0,none⟩=some (.int .i64 m)) (hg:tr w) (hO:fP w) :
  Calls prog 10 #[.slice a n cap,.string s] w fun e w'=>(∃v,e = .returned (.tuple #[v,.int .i64 (aY l s).2])/\eQ w' w.heap.size v (aY l s).1)/\Below w.heap.size w w':=by
 have CZ:=af (ir s m w hS hm hg hO);have CM:=af (fun W (hb:Below w.heap.size w W)=>(hb.cell (p:=⟨2,0,none⟩) (World.block_lt_of_cell? _ _ hm)).trans hm);have x:=af hn;have HR:=af h;have HS:=af hs;clear hn h hs hS hm hg hO;go_enter func10,ntmps10;go_wp2_with fail;refine(ae CZ).mono ?_;rintro e x1 ⟨⟨v,rfl,u⟩,bs⟩;have K:=af bs;obtain⟨fs,hfs⟩:∃fs,(bR s).getD []=fs:=⟨_,rfl⟩;rw[hfs]at u;obtain⟨N,hN⟩:∃N,fs.length=N:=⟨_,rfl⟩;obtain⟨va,vc,rfl,dd,_⟩:=u.formN hN;have HV:=af u;have a2:=af hfs;have f:=af hN;clear u bs hfs hN CZ;cases hz:(bR s).isSome
 .
  have Y:Hid (aY l s=([],1)):=by
   show _=_;unfold aY;rw[hz];simp
  clear hz;go_wp2
  go_ret2
  rw[ae Y];exact⟨⟨_,rfl,aN.nil _ _⟩,ae K⟩
 .
  have HZ:=af hz;clear hz;go_wp2_with fail;refine(fC a cap l n (ae x) m _ ((ae HR).later (ae K)) hl b1 (ae HS) (ae CM _ (ae K))).mono ?_;rintro e x2 ⟨rfl,aa⟩;have O:=af (am (ae K) aa);have ba:=af ((ae HV).later aa (a0a _));clear aa HV;cases ht:cH l
  .
   have Y:Hid (aY l s=([],1)):=by
    show _=_;unfold aY;rw[ht];simp
   clear ht;go_wp2
   go_ret2
   rw[ae Y];exact⟨⟨_,rfl,aN.nil _ _⟩,ae O⟩
  .
   have Y:=af ht;have co:n<=8:=by rw[←ae x];exact tm ht
   have cr:(n:Int)<=8:=by omega
   have b7:=af (ni ht);have J:=af (lQ ht);have HE:=af (vJ a cap n l x2 (ae x) ((ae HR).later (ae O)) co (fun i hi=>by
    have b3:i<l.length:=by rw[ae x];exact hi
    have e:l.getD i default=l[i]:=by simp[b3]
    rw[e];obtain⟨h1,h2⟩:=ae b7 l[i] (a1A b3);exact⟨by omega,by omega⟩))
   clear ht;go_wp2_with fail;refine(ae HE).mono ?_;rintro e x3 ⟨wv,rfl,ao,ab⟩;obtain⟨wa,wc,rfl,dl,_⟩:=aN.formN (ae x) ao;have P:=af (am (ae O) ab);have cg:=af ((ae ba).later ab (a0a _));have bb:=af (ao.mono (ae O).size);clear ab ao ba HE;go_wp2_with fail;refine(Fe x3).mono ?_;rintro e x4 ⟨⟨b,rfl,b4⟩,ac⟩;have b8:=af (am (ae P) ac);have a3:=af ac;have a4:=af b4;clear ac b4;go_wp2_with fail
   go_loopw [11,32] (fun _ i wr=>∃k:Nat,k<=n/\i = .int .i64 k/\qp wr x3.heap.size b (l.take k)/\Below x3.heap.size x3 wr) (fun _ i _=>n-(intOf i).toNat)
   case atStart=>exact⟨0,a0h _,rfl,ae a4,ae a3⟩
   case round=>
    obtain⟨k,hk,rfl,A,c⟩:=hrel;by_cases cm:k<n
    .
     obtain⟨g,o,rfl,hg,F⟩:=lU.later (fz (ae x) (ae bb)) c (by have:=ae x;omega);obtain⟨c0,c1⟩:=F k (by have:=ae x;omega);have S:=af (j6 l default k (by have:=ae x;omega));have ad:Hid ((l.take k).length=k):=by show _=_;have:=ae x;simp;omega
     have b6:Hid (bH (l.take k) (l.getD k default)=l.take (k+1)):=by
      show _=_;have e1:=uE (ae J) (k+1);rw[ae S,a3p,uE (ae J) k]at e1;rw[ae S];simpa using e1
     have al:=af (show eR (l.take k)from List.Pairwise.sublist (List.take_sublist k l) (ae J));have Hk:=af hk;clear F hk;generalize l.getD k default=en at *
     obtain⟨ep,et⟩:=en;have hA:Below wr.heap.size wr (wr.alloc (.cells #[.string ep,.string et] 28)):=(a0c _ _).alloc (a0a _) _;have I:=A.later hA (a0a _);have cp:=c.size;have B:=af (sq b (l.take k) ep et x3.heap.size _ I (ae al) (by have:=ae ad;omega) (by simp;omega));have HA:=af (c.trans (hA.mono c.size));clear hA I A c;go_wp2_with fail;refine(ae B).mono ?_;rintro e x5 ⟨rfl,z,D⟩;rw[ae b6]at z;have X:=af z;have V:=af ((ae HA).trans D);clear z D B;go_wp2_with fail;go_roundw
     case rel=>exact⟨k+1,by have:=ae Hk;omega,by go_num,ae X,ae V⟩
     case measure=>simp[intOf];omega
    .
     have G:l.take k=l:=a0D (by rw[ae x];omega);rw[G]at A;have a5:=af A;have j:=af c;clear A c G;go_wp2_with fail;clear b8 a3 a4;have b2:=af (pF (show bR s=some fs by
      have h1:=ae a2;cases h2:bR s with
      | none=>have h3:=ae HZ;rw[h2]at h3;cases h3
      | some q=>rw[h2]at h1;exact congrArg some h1))
     have cu:N<=6:=by rw[←ae f];exact(ae b2).1
     have cv:(N:Int)<=6:=by omega
     have U:=af (nK l)
     go_loopw [13,44] (fun _ i wr=>∃k:Nat,k<=N/\i = .int .i64 k/\qp wr x3.heap.size b (bG l (fs.take k))/\Below x3.heap.size x3 wr) (fun _ i _=>N-(intOf i).toNat)
     case atStart=>exact⟨0,a0h _,rfl,ae a5,ae j⟩
     case round=>
      clear a5 j;obtain⟨k,hk,rfl,A,c⟩:=hrel;by_cases cm:k<N
      .
       obtain⟨g,o,rfl,hg,F⟩:=lT.later (im (ae f) (ae cg)) c (by have:=ae f;omega);obtain⟨c0,c1,c2,c3,c4,c5,c6,c7⟩:=F k (by have:=ae f;omega);have S:=af (uD l fs k (by have:=ae f;omega));have ad:Hid ((bG l (fs.take k)).length<=14):=by
        show _<=_;have h1:=ae U (fs.take k);have h2:=ae x;have h3:(fs.take k).length<=6:=by rw[a0t];have:=ae f;omega
        omega
       have al:=af (uB (ae J) (fs.take k));have Hk:=af hk;clear F hk;generalize fs.getD k default=en at *
       have hA:Below wr.heap.size wr (wr.alloc (.cells #[.string en.n,.int .i64 en.y,.int .i64 en.mo,.int .i64 en.d,.int .i64 en.h,.int .i64 en.mi,.int .i64 en.s,.string en.t] 32)):=(a0c _ _).alloc (a0a _) _;have I:=A.later hA (a0a _);have cp:=c.size;have B:=af (sq b (bG l (fs.take k)) en.n en.t x3.heap.size _ I (ae al) (by have:=ae ad;omega) (by simp;omega));have HA:=af (c.trans (hA.mono c.size));clear hA I A c;go_wp2_with fail;refine(ae B).mono ?_;rintro e x5 ⟨rfl,z,D⟩;have b5:qp x5 x3.heap.size b (bG l (fs.take (k+1))):=by rw[ae S];exact z
       have X:=af b5;have V:=af ((ae HA).trans D);clear z b5 D B;go_wp2_with fail;go_roundw
       case rel=>exact⟨k+1,by have:=ae Hk;omega,by go_num,ae X,ae V⟩
       case measure=>simp[intOf];omega
      .
       have G:fs.take k=fs:=a0D (by rw[ae f];omega);rw[G]at A;obtain⟨L,hL⟩:∃L,bG l fs=L:=⟨_,rfl⟩;have bk:=af (uB (ae J) fs);have bd:=af (mL (ae b7) (ae b2).2);have be:=af (ae U fs);rw[hL]at A bk bd be;have HL:=af hL;obtain⟨M,hM⟩:∃M,L.length=M:=⟨_,rfl⟩;have cq:M<=14:=by
        have h1:=ae be;have h2:=ae x;have h3:=ae f;omega
       have r:=af hM;have bc:=af (Ck b x3.heap.size L wr A (ae bk) (by omega));have j:=af c;clear A c G hL hM;go_wp2_with fail;refine(ae bc).mono ?_;rintro e x7 ⟨tv,rfl,an,b0⟩;obtain⟨ta,tc,rfl,c8,_⟩:=aN.formN (ae r) an;have a0:=af ((ae j).trans (b0.mono (ae j).size));have a6:=af an;have cy:=(ae j).size;clear b0 an bc j;have Q:=af ((ae P).trans ((ae a0).mono (ae P).size));have ct:=(ae P).size;have Z:=af (aN.later (ae bb) (ae a0) (a0a _));have a7:=af (aN.mono (ae a6) (show w.heap.size<=wr.heap.size by omega));have H:Hid (bG l ((bR s).getD [])=L):=by show _=_;rw[ae a2];exact ae HL
       by_cases E:8<M
       .
        have ck:(8:Int)<(M:Int):=by omega
        have C:Hid (aY l s=(l,4)):=by
         show _=_;unfold aY;rw[a0e ⟨ae HZ,ae Y⟩,ae H,a0e (by rw[ae r];exact E)]
        go_wp2
        go_ret2
        rw[ae C];exact⟨⟨_,rfl,ae Z⟩,ae Q⟩
       .
        have cs:(M:Int)<=8:=by omega
        have a9:=af (fC ta tc L M (ae r) m x7 (fz (ae r) (ae a6)) (by omega) (by omega) (qf (ae r) (ae bd)) (ae CM _ (ae Q)));go_wp2_with fail;refine(ae a9).mono ?_;rintro e x8 ⟨rfl,R⟩;have a1:=af (am (ae Q) R);have ch:=af (aN.later (ae Z) R (a0a _));have cc:=af (aN.later (ae a7) R (a0a _));clear R a9 Z a7 Q;cases T:cH L
        .
         have C:Hid (aY l s=(l,3)):=by
          show _=_;unfold aY;rw[a0e ⟨ae HZ,ae Y⟩,ae H,a0d (by rw[ae r];exact E),a0d (by rw[T];decide)]
         clear T;go_wp2
         go_ret2
         rw[ae C];exact⟨⟨_,rfl,ae ch⟩,ae a1⟩
        .
         have C:Hid (aY l s=(L,0)):=by
          show _=_;unfold aY;rw[a0e ⟨ae HZ,ae Y⟩,ae H,a0d (by rw[ae r];exact E),a0e T]
         clear T;go_wp2
         go_ret2
         rw[ae C];exact⟨⟨_,rfl,ae cc⟩,ae a1⟩
theorem FX(l:List Fl)(s:ByteArray):(aY l s).1.length<=8:=by
 unfold aY
 split
 .
  rename_i h;have:=tm h.2
  split
  . exact this
  .
   split
   . simp only;omega
   . exact this
 . exact a0h _
def atF:List Fl->ByteArray->Option Nat
 | [],_=>none
 | f :: l,x=>if f.p=x then some 0 else(atF l x).map (· + 1)
theorem wL{l:List Fl}{k:Nat}(h:atF l x=some k):k<l.length/\(l.getD k default).p=x:=by
 induction l generalizing k with
 | nil=>cases h
 | cons f l ih=>
  unfold atF at h
  split at h
  . rename_i e;obtain rfl:0=k:=a0Z h;exact⟨by simp,by simpa using e⟩
  . obtain⟨j,b,rfl⟩:=Option.map_eq_some_iff.1 h;obtain⟨a,h2⟩:=ih b;exact⟨by simpa using a,by simpa using h2⟩
theorem GE{l:List Fl}(h:atF l x=none):∀f∈l,f.p≠x:=by
 induction l with
 | nil=>intro f a;cases a
 | cons e l ih=>
  unfold atF at h
  split at h
  . cases h
  .
   rename_i ne;intro f a;rcases a1h.1 a with rfl|a
   . exact ne
   . exact ih (by simpa using h) f a
theorem JI{l:List Fl}(i:eR l){f g:Fl}(d:f∈l)(j:g∈l)(h:f.p=g.p):f=g:=by
 unfold eR at i;induction l with
 | nil=>cases d
 | cons e l ih=>
  obtain⟨c,h2⟩:=List.pairwise_cons.1 i;rcases a1h.1 d with e1|a<;>rcases a1h.1 j with e2|b
  . rw[e1,e2]
  . have:=c g b;rw[←e1,h,iz]at this;cases this
  . have:=c f a;rw[←e2,←h,iz]at this;cases this
  . exact ih h2 a b
theorem uC{l:List Fl}{fs:List En}{f:Fl}(a:f∈l)(h:∀e∈fs,f.p≠e.n):f∈bG l fs:=by
 induction fs generalizing l with
 | nil=>exact a
 | cons e fs ih=>exact ih (uR a (h e (by simp))) (fun d hd=>h d (a10 _ hd))
theorem Dc{l:List Fl}{fs:List En}(h:fs.Pairwise fun a b=>a.n≠b.n):∀e∈fs,enF e∈bG l fs:=by
 induction fs generalizing l with
 | nil=>intro e c;cases c
 | cons d fs ih=>
  obtain⟨i,h2⟩:=List.pairwise_cons.1 h;intro e c;show enF e∈bG (bH l (enF d)) fs;rcases a1h.1 c with e1|g
  . rw[e1];exact uC (Du _ _) (fun f j=>i f j)
  . exact ih h2 e g
theorem EQ{l:List Fl}{fs:List En}(a:eR l)(h:∀e∈fs,enF e∈l):bG l fs=l:=by
 induction fs with
 | nil=>rfl
 | cons e fs ih=>
  show bG (bH l (enF e)) fs=l;rw[FG a (h e (by simp))];exact ih (fun d hd=>h d (a10 _ hd))
theorem FZ{l:List Fl}{s:ByteArray}(h:(aY l s).2=0):∃fs,bR s=some fs/\cH l=true/\(aY l s).1=bG l fs/\cH (bG l fs)=true/\(bG l fs).length<=8:=by
 unfold aY at h ⊢
 split at h
 .
  rename_i hc;rw[a0e hc];obtain⟨fs,a⟩:=Option.isSome_iff_exists.1 hc.1;rw[a]at h ⊢;simp only[a1q]at h ⊢
  split at h
  . simp at h
  .
   rename_i h8;rw[a0d h8]
   split at h
   . rename_i ht;rw[a0e ht];exact⟨fs,rfl,hc.2,rfl,ht,by omega⟩
   . simp at h
 . simp at h
theorem BW{l:List Fl}{s:ByteArray}{fs:List En}(f:bR s=some fs)(c:cH (bG l fs)=true)(g:(bG l fs).length<=8)(d:fs.Pairwise fun a b=>a.n≠b.n):aY (bG l fs) s=(bG l fs,0):=by
 have e:bG (bG l fs) fs=bG l fs:=EQ (lQ c) (Dc d);unfold aY;rw[f];simp only[Option.isSome_some,a1q,a2A];rw[a0e c,e,a0d (by omega),a0e c]
theorem iL(a b:Option Addr)(c d n:Nat)(l:List Fl)(w:World)(v:l.length=n)(t:lU w a l)(hb:lU w b l)(B:n<=100) :
  CD 11 #[.slice a n c,.slice b n d] w (.bool true):=by
 have u:prog.follows .mixedOrders=true:=by kernel_rfl
 have C:(n:Int)<=100:=by omega
 have p:=af v;have x:=af t;have y:=af hb;clear v t hb B;go_enter func11,ntmps11;go_wp2_with fail
 go_loopw [5] (fun i wr=>∃k:Nat,k<=n/\i = .int .i64 k/\Below w.heap.size w wr) (fun i _=>n-(intOf i).toNat)
 case atStart=>exact⟨0,a0h _,rfl,a0c _ _⟩
 case round=>
  obtain⟨k,A,rfl,e⟩:=hrel;by_cases j:k<n
  .
   obtain⟨g,o,rfl,z,h⟩:=(ae x).later e (by have:=ae p;omega);obtain⟨c0,c1⟩:=h k (by have:=ae p;omega);obtain⟨g2,o2,rfl,r,f⟩:=(ae y).later e (by have:=ae p;omega);obtain⟨D,E⟩:=f k (by have:=ae p;omega);have q:=af e;have s:=af j;have m:(k:Int)<(n:Int):=by omega
   clear h f e A j z r;generalize l.getD k default=en at *
   go_wp2_with fail
   go_quiet (fail)
   go_wp2_with fail;go_roundw
   case rel=>exact⟨k+1,by have:=ae s;omega,by go_num,below_drewN (ae q) _⟩
   case measure=>have:=ae s;simp[intOf];omega
  .
   have m:¬ (k:Int)<(n:Int):=by omega
   go_wp2;go_ret;exact⟨rfl,e⟩
theorem Au(a b:Option Addr)(c d n k:Nat)(w:World)(f:n≠k) :
  Calls prog 11 #[.slice a n c,.slice b k d] w fun e w'=>e = .returned (.bool false)/\w'=w:=by
 have g:¬ (n:Int)=(k:Int):=by omega
 go_enter func11,ntmps11;go_wp2;go_ret;exact⟨rfl,rfl⟩
def atI(l:List Fl)(x:ByteArray):Int:=match atF l x with
 | some k=>(k:Int)
 | none=>-1
theorem GD{l:List Fl}{k:Nat}(h:∀j,j<k->(l.getD j default).p≠x)(a:k<l.length)(e:(l.getD k default).p=x):atF l x=some k:=by
 induction l generalizing k with
 | nil=>simp at a
 | cons f l ih=>
  unfold atF;cases k with
  | zero=>rw[a0e (by simpa using e)]
  | succ k=>
   rw[a0d (by simpa using h 0 (by omega)),ih (k:=k) (fun j b=>by simpa using h (j+1) (by omega)) (by simpa using a) (by simpa using e)];rfl
theorem MV{l:List Fl}(h:∀j,j<l.length->(l.getD j default).p≠x):atF l x=none:=by
 cases e:atF l x with
 | none=>rfl
 | some k=>
  obtain⟨a,h2⟩:=wL e;exact absurd h2 (h k a)
theorem xd(a:Option Addr)(c n:Nat)(l:List Fl)(x:ByteArray)(w:World)(E:l.length=n)(C:lU w a l)(J:n<=100) :
  CD 21 #[.slice a n c,.string x] w (.int .i64 (atI l x)):=by
 have D:prog.follows .mixedOrders=true:=by kernel_rfl
 have K:(n:Int)<=100:=by omega
 have u:=af E;have F:=af C;clear E C J;go_enter func21,ntmps21;go_wp2_with fail
 go_loopw [5] (fun i wr=>∃k:Nat,k<=n/\i = .int .i64 k/\(∀j,j<k->(l.getD j default).p≠x)/\Below w.heap.size w wr) (fun i _=>n-(intOf i).toNat)
 case atStart=>exact⟨0,a0h _,rfl,fun j A=>absurd A (by omega),a0c _ _⟩
 case round=>
  obtain⟨k,I,rfl,q,b⟩:=hrel;have d:=af q;clear q;by_cases r:k<n
  .
   obtain⟨g,o,rfl,H,m⟩:=(ae F).later b (by have:=ae u;omega);obtain⟨c0,c1⟩:=m k (by have:=ae u;omega);obtain⟨y,hy⟩:∃y,(l.getD k default).p=y:=⟨_,rfl⟩;rw[hy]at c0;have B:=af hy;have h:=af b;have v:=af r;have s:(k:Int)<(n:Int):=by omega
   clear m b I r H hy c1;by_cases f:y.toList=x.toList
   .
    have hb:(y.toList == x.toList)=true:=by simpa using f
    have t:y=x:=a2y (Array.toList_inj.1 (by rw[a08,a08]at f;exact f));have z:Hid (atI l x=(k:Int)):=by
     show _=_;unfold atI;rw[GD (ae d) (by have:=ae u;have:=ae v;omega) ((ae B).trans t)]
    clear t f;go_wp2;go_ret;exact⟨by rw[ae z];rfl,ae h⟩
   .
    have hb:(y.toList == x.toList)=false:=by simpa using f
    have G:Hid ((l.getD k default).p≠x):=fun e=>f (by rw[←ae B,e]);clear f;go_wp2;go_roundw
    case rel=>exact⟨k+1,by have:=ae v;omega,by go_num,fun j A=>(by
     by_cases e:j=k
     . rw[e];exact ae G
     . exact ae d j (by omega)),ae h⟩
    case measure=>have:=ae v;simp[intOf];omega
  .
   have s:¬ (k:Int)<(n:Int):=by omega
   have z:Hid (atI l x = -1):=by
    show _=_;unfold atI;rw[MV (fun j A=>ae d j (by have:=ae u;omega))]
   go_wp2;go_ret;exact⟨by rw[ae z];rfl,b⟩
end Go.Proofs.YtkdlcomfpffhhaaGreatDoor
