/- Of what the proof is made: 6 texts, one behind the other. -/
import Derived.Test.YtfhdadkcophoaaaGreatDoorM41
import Derived.Test.YtfhdadkcophoaaaGreatDoorM45
import Derived.Test.YtfhdadkcophoaaaGreatDoorM42
import Derived.Test.YtfhdadkcophoaaaGreatDoorM40
import Derived.Test.YtfhdadkcophoaaaGreatDoorM33
import Derived.Test.YtfhdadkcophoaaaGreatDoorM43
set_option linter.unusedSimpArgs false
set_option linter.unusedVariables false
set_option maxHeartbeats 3200000
namespace Go.Proofs.YtfhdadkcophoaaaGreatDoor
open Corb
set_option maxRecDepth 100000
def AO(e:En):Nat:=(loE e).size+46+e.n.size
theorem C3(l:List En):∀s,(l.foldl Au s).1.size+(l.foldl Au s).2.size=s.1.size+s.2.size+(l.map AO).sum:=by
 induction l with
 | nil=>intro s;simp
 | cons e l ih=>
  intro s;rw[List.foldl_cons,ih,a0p,a0H];simp only[Au,a0z,qt,AO];omega
theorem tV{l:List En}(h:aY l=true):(bz l).size=22+(l.map AO).sum:=by
 have:=C3 l (⟨#[]⟩,⟨#[]⟩);have e0:(⟨#[]⟩:ByteArray).size=0:=rfl;rw[rT h];unfold aG;rw[this];simp only[e0];omega
theorem As:dp ⟨#[]⟩=none:=I8 (fun h=>absurd h.1 (by decide))
theorem yW(a:List UInt8):bf a a=true:=by unfold bf;simp
theorem AM{l:List En}(h:aY l=true){e:En}(he:e∈l):fe e=true:=((rU l).1 h).1 e he
theorem Ie{l:List En}(h:aY l=true){e:En}(he:e∈l):aH l e=3:=by
 have ha:gk l e.n=true:=by
  unfold gk;rw[List.any_eq_true];exact⟨e,he,yW _⟩
 unfold aH;rw[a0d (AM h he),a0d ha]
theorem Dc{l:List En}(h:aY l=true):(l.length=0/\qG (bz l) (bz l) = .tuple #[.string (bz l),.int .i64 0])∨(0<l.length/\qG (bz l) (bz l) = .tuple #[.string (bz l),.int .i64 3]):=by
 rw[s9 (ea h)];cases l with
 | nil=>exact .inl ⟨rfl,nU (ea h) rfl⟩
 | cons e r=>
  refine .inr ⟨by simp,vV (r:=[]) (ea h) ?_ (by decide)⟩;have h3:=Ie h (e:=e) (by simp);unfold fX;rw[a0e (by rw[h3];decide),h3]
theorem IX{l:List En}(h:aY l=true){e f:En}(he:e∈l)(hf:f.n=e.n++⟨#[47,120]⟩):aH l f≠0:=by
 have ha:gk l f.n=true:=by
  unfold gk;rw[List.any_eq_true];refine⟨e,he,?_⟩;rw[hf];unfold bf dQ;simp only[a23,a1U,a1c];right;right;rw[a28];exact⟨[120],by simp⟩
 unfold aH;rw[a0d ha]
 split<;>decide
theorem yF{l:List En}(h:aY l=true)(k:Nat):aY (l.drop k)=true:=by
 obtain⟨h1,h2,h3⟩:=(rU l).1 h;have hs:=List.drop_sublist k l;exact(rU _).2 ⟨fun e he=>h1 e (hs.subset he),h2.sublist hs,a0D hs.length_le h3⟩
theorem ql{l:List En}{k:Nat}(hk:k<l.length):l.drop k=l.getD k default :: l.drop (k+1):=by
 rw[a27 hk];simp[List.getD,hk]
theorem Jk(e:En)(r:List En):atN (e :: r) e.n=0:=by
 unfold atN;rw[List.findIdx?_cons];simp
theorem FF{l:List En}(h:aY l=true){k:Nat}(hk:k<l.length):edR (bz (l.drop k)) (iv (l.getD k default).n) = .tuple #[.string (bz (l.drop (k+1))),.int .i64 0]/\(bz (l.drop (k+1))).size<(bz (l.drop k)).size:=by
 have hz:=yF h k;refine⟨nU (ea hz) ?_,?_⟩
 · unfold iv;rw[ql hk,Jk,a0e (by decide)];rfl
 · rw[tV (yF h (k+1)),tV hz,ql hk,a0p,a0H];unfold AO;omega
def frN(j:Nat):ByteArray:=⟨#[102,114,101,115,104,UInt8.ofNat (49+j)]⟩
theorem JI:∀j,j<7->gB (frN j).data.toList=true/\(∀v∈fT++cU,gB v.data.toList=true->bf v.data.toList (frN j).data.toList=false)/\(∀i,i<6->bf (fM i).data.toList (frN j).data.toList=false)/\∀i,i<j->bf (frN i).data.toList (frN j).data.toList=false:=by decide +kernel
def frE(j:Nat):En:=⟨frN j,2000,1,1,0,0,0,⟨#[]⟩⟩
def tW(l:List En)(k:Nat):Prop:=aY l=true/\∀e∈l,(e.n∈fT++cU∨∃j,j<6/\e.n=fM j)∨∃j,j<k/\e.n=frN j
theorem JL{l:List En}(h:aY l=true)(hn:NmE l):tW l 0:=⟨h,fun e he=>.inl (hn e he)⟩
theorem AW{l:List En}{k:Nat}(h:tW l k)(hk:k<7):aH l (frE k)=if 6<=l.length then 4 else 0:=by
 obtain⟨f1,f2,f3,f4⟩:=JI k hk;have hE:fe (frE k)=true:=by
  show(gB (frN k).data.toList&&(bL 2000 1 1 0 0 0&&decide ((⟨#[]⟩:ByteArray).size<=300)))=true;rw[f1];decide +kernel
 have hA:gk l (frE k).n=false:=(ET _ _).2 fun e he=>by
  rcases h.2 e he with(h1|⟨j,hj,h1⟩)|⟨j,hj,h1⟩
  · refine f2 _ h1 ?_;have:=AM h.1 he;unfold fe eZ at this;simp only[a0j]at this;exact this.1
  · rw[h1];exact f3 j hj
  · rw[h1];exact f4 j hj
 unfold aH;rw[a0d hE,hA,a0e (by decide)]
theorem JK{l:List En}{k:Nat}(h:tW l k)(hk:k<7)(h6:l.length<6):tW (l++[frE k]) (k+1):=by
 refine⟨(eK h.1 _).2 (by rw[AW h hk,a0e (by omega)]),fun e he=>?_⟩;rcases a0S.1 he with he|he
 ·
  rcases h.2 e he with h1|⟨j,hj,h1⟩
  · exact .inl h1
  · exact .inr ⟨j,by omega,h1⟩
 · rw[a0T.1 he];exact .inr ⟨k,by omega,rfl⟩
theorem JJ{l:List En}{k:Nat}(h:tW l k):tW l (k+1):=⟨h.1,fun e he=>by
 rcases h.2 e he with h1|⟨j,hj,h1⟩
 · exact .inl h1
 · exact .inr ⟨j,by omega,h1⟩⟩
end Go.Proofs.YtfhdadkcophoaaaGreatDoor
namespace Go.Proofs.YtfhdadkcophoaaaGreatDoor
open Go.RowKit Corb
set_option maxRecDepth 100000
theorem zi(a:Option Addr)(len cap:Nat)(zs:List Int)(m:Int)(w:World)(w0:pU .u8 w a len cap zs)(hm:w.cell? ⟨2,0,none⟩=some (.int .i64 m))(hg:iq w)(hO:bY w) :
  Calls Tryz.prog 8 #[.slice a len cap] w fun e w'=>e = .returned (.bool true)/\Below w.heap.size w w':=by
 obtain⟨⟨z,hsrc⟩,hc,hlen⟩:=rI w0;have HDr:=af (fR a len cap z w hsrc hc hlen);have CW:=af (fun W (hb:Below w.heap.size w W)=>a0c ((hb.cell (p:=⟨2,0,none⟩) (World.block_lt_of_cell? _ _ hm)).trans hm) (a0c (hg.later hb) (hO.later hb)));unfold maxLen at hlen;clear w0 hsrc hm hg hO;by_cases hl:(len:Int)<=1048576
 ·
  go_enter Tryz.func8,Tryz.ntmps8;go_wp2_with fail;refine(ae HDr).mono ?_;rintro e w1 ⟨⟨v,l,rfl,ho,h7,hT,hNm⟩,hb1⟩;obtain⟨n,hn⟩:∃n,l.length=n:=⟨_,rfl⟩;obtain⟨ga,tc,rfl,hcap,_⟩:=aQ.formN hn ho;have HN:=af hn;have HOw:=af ho;have HNm:=af hNm;have HB1:=af hb1;have HT:=af (pM hn hT);have hnI:(n:Int)<=7:=by omega
  have hcI:(n:Int)<=(tc:Int):=by omega
  have CI:=af (dY ga tc l n hn m w1 (bq hn ho) (by omega) hcI (ae HT) (ae CW w1 hb1).1 (ae CW w1 hb1).2.1);have CS:=af (fun W (hW:Below w1.heap.size w1 W)=>fV ga tc l n hn W (bq hn (ho.later hW (a0a _))) (by omega) (ae HT));have CP:=af (fun W (hW:Below w1.heap.size w1 W)=>bB ga tc l n hn m W (bq hn (ho.later hW (a0a _))) (by omega) hcI (ae HT) (ae CW W (ag (ae HB1) hW)).1 (ae CW W (ag (ae HB1) hW)).2.1 (ae CW W (ag (ae HB1) hW)).2.2);clear ho hb1 hT h7 hn HDr hNm hlen hc;generalize hzb:aY l=zb at *
  go_wp2_with fail;refine(ae CI).mono ?_;rintro e w2 ⟨rfl,hb2⟩;have HB2:=af hb2;clear hb2 CI;go_wp2_with fail;refine(ae CS w2 (ae HB2)).mono ?_;rintro e w3 ⟨rfl,hb3⟩;have HB3:=af (ag (ae HB2) hb3);clear hb3 HB2;cases zb
  · go_wp2_with fail;refine(ae CS w3 (ae HB3)).mono ?_;rintro e w4 ⟨rfl,hb4⟩;have HB4:=af (ag (ae HB1) (ag (ae HB3) hb4));clear hb4;go_wp2;go_ret;exact⟨rfl,ae HB4⟩
  ·
   have HZ:=af hzb;clear hzb;go_wp2_with fail;refine(ae CP w3 (ae HB3)).mono ?_;rintro e w4 ⟨rfl,hb4⟩;have HB4:=af (ag (ae HB3) hb4);clear hb4 HB3 CS CP;have HSs:=af (io l);have HJ:=af (Dc (ae HZ));have C1:=af (jN (bz l) (bz l) m w4 (by have:=ae HSs;omega) (by have:=ae HSs;omega) (ae CW w4 (ag (ae HB1) (ae HB4))).1 (ae CW w4 (ag (ae HB1) (ae HB4))).2.1 (ae CW w4 (ag (ae HB1) (ae HB4))).2.2);have C2:=af (fun W (hW:Below w1.heap.size w1 W)=>jN (bz l) ⟨#[]⟩ m W (by have:=ae HSs;omega) (by decide) (ae CW W (ag (ae HB1) hW)).1 (ae CW W (ag (ae HB1) hW)).2.1 (ae CW W (ag (ae HB1) hW)).2.2);rw[sZ As]at C2;generalize bz l=S at *
   rcases ae HJ with⟨h0,hj⟩|⟨h0,hj⟩
   ·
    rw[hj]at C1;rw[ae HN]at h0;clear hj HJ;have h0I:(n:Int)=0:=by omega
    go_wp2_with fail;refine(ae C1).mono ?_;rintro e w5 ⟨rfl,hb5⟩;have HB5:=af (ag (ae HB4) hb5);clear hb5 C1;go_wp2_with fail;refine(ae C2 w5 (ae HB5)).mono ?_;rintro e w6 ⟨rfl,hb6⟩;have HB6:=af (ag (ae HB1) (ag (ae HB5) hb6));clear hb6 C2;go_wp2;go_ret;exact⟨rfl,ae HB6⟩
   · rw[hj]at C1;rw[ae HN]at h0;clear hj HJ;have h0I:((n:Int) == 0)=false:=a0Z.2 (by omega);go_wp2_with fail;refine(ae C1).mono ?_;rintro e w5 ⟨rfl,hb5⟩;have HB5:=af (ag (ae HB4) hb5);clear hb5 C1;go_wp2_with fail;refine(ae C2 w5 (ae HB5)).mono ?_;rintro e w6 ⟨rfl,hb6⟩;have HB6:=af (ag (ae HB1) (ag (ae HB5) hb6));clear hb6 C2;go_wp2;go_ret;exact⟨rfl,ae HB6⟩
 · go_enter Tryz.func8,Tryz.ntmps8;go_wp2;go_ret;exact⟨rfl,a0b _ _⟩
theorem AU(a:Option Addr)(len cap:Nat)(zs:List Int)(m:Int)(w:World)(w0:pU .u8 w a len cap zs)(hm:w.cell? ⟨2,0,none⟩=some (.int .i64 m))(hg:iq w)(hO:bY w) :
  Calls Tryz.prog 6 #[.slice a len cap] w fun e w'=>e = .returned (.bool true)/\Below w.heap.size w w':=by
 obtain⟨⟨z,hsrc⟩,hc,hlen⟩:=rI w0;have HDr:=af (fR a len cap z w hsrc hc hlen);have CW:=af (fun W (hb:Below w.heap.size w W)=>a0c ((hb.cell (p:=⟨2,0,none⟩) (World.block_lt_of_cell? _ _ hm)).trans hm) (a0c (hg.later hb) (hO.later hb)));unfold maxLen at hlen;clear w0 hsrc hm hg hO;by_cases hl:(len:Int)<=1048576
 ·
  go_enter Tryz.func6,Tryz.ntmps6;go_wp2_with fail;refine(ae HDr).mono ?_;rintro e w1 ⟨⟨v,l,rfl,ho,h7,hT,hNm⟩,hb1⟩;obtain⟨n,hn⟩:∃n,l.length=n:=⟨_,rfl⟩;obtain⟨ga,tc,rfl,hcap,_⟩:=aQ.formN hn ho;have HN:=af hn;have HOw:=af ho;have HNm:=af hNm;have HB1:=af hb1;have HT:=af (pM hn hT);have hnI:(n:Int)<=7:=by omega
  have hcI:(n:Int)<=(tc:Int):=by omega
  have CI:=af (dY ga tc l n hn m w1 (bq hn ho) (by omega) hcI (ae HT) (ae CW w1 hb1).1 (ae CW w1 hb1).2.1);have CS:=af (fun W (hW:Below w1.heap.size w1 W)=>fV ga tc l n hn W (bq hn (ho.later hW (a0a _))) (by omega) (ae HT));have CP:=af (fun W (hW:Below w1.heap.size w1 W)=>bB ga tc l n hn m W (bq hn (ho.later hW (a0a _))) (by omega) hcI (ae HT) (ae CW W (ag (ae HB1) hW)).1 (ae CW W (ag (ae HB1) hW)).2.1 (ae CW W (ag (ae HB1) hW)).2.2);clear ho hb1 hT h7 hn HDr hNm hlen hc;generalize hzb:aY l=zb at *
  go_wp2_with fail;refine(ae CI).mono ?_;rintro e w2 ⟨rfl,hb2⟩;have HB2:=af hb2;clear hb2 CI;go_wp2_with fail;refine(ae CS w2 (ae HB2)).mono ?_;rintro e w3 ⟨rfl,hb3⟩;have HB3:=af (ag (ae HB2) hb3);clear hb3 HB2;cases zb
  · go_wp2_with fail;refine(ae CS w3 (ae HB3)).mono ?_;rintro e w4 ⟨rfl,hb4⟩;have HB4:=af (ag (ae HB1) (ag (ae HB3) hb4));clear hb4;go_wp2;go_ret;exact⟨rfl,ae HB4⟩
  ·
   have HZ:=af hzb;clear hzb;go_wp2_with fail;refine(ae CP w3 (ae HB3)).mono ?_;rintro e w4 ⟨rfl,hb4⟩;have HB4:=af (ag (ae HB3) hb4);clear hb4 HB3 CS CP;have HSs:Hid (∀k,(bz (l.drop k)).size<=4000):=fun k=>io _;have HD:=af (fun k (hk:k<n)=>FF (ae HZ) (k:=k) (by rw[ae HN];exact hk));have C1:=af (fun(k:Nat) (W:World) (hW:Below w1.heap.size w1 W)=>pr (bz (l.drop k)) (l.getD k default).n m W (by have:=ae HSs k;omega) (ae CW W (ag (ae HB1) hW)).1 (ae CW W (ag (ae HB1) hW)).2.1 (ae CW W (ag (ae HB1) hW)).2.2);have C0:=af (fun(W:World) (hW:Below w1.heap.size w1 W)=>bB none 0 [] 0 rfl m W (fun h=>absurd h (by simp)) (by omega) (by omega) (fun i hi=>absurd hi (by omega)) (ae CW W (ag (ae HB1) hW)).1 (ae CW W (ag (ae HB1) hW)).2.1 (ae CW W (ag (ae HB1) hW)).2.2);have HS0:Hid (bz l=bz (l.drop 0)):=by show _=_;rw[a1W]
   have HSn:Hid (bz (l.drop n)=bz []):=by show _=_;rw[a2V (by rw[ae HN];exact a0a _)]
   go_wp2_with fail
   go_loopw [5,6,7,8] (fun s i _ _ wr=>∃k:Nat,k<=n/\i = .int .i64 k/\s = .string (bz (l.drop k))/\Below w1.heap.size w1 wr) (fun _ i _ _ _=>n-(intOf i).toNat)
   case atStart=>exact⟨0,a0h _,rfl,by rw[ae HS0],ae HB4⟩
   case round=>
    obtain⟨k,hk,rfl,rfl,hbr⟩:=hrel;have HBr:=af hbr;clear hbr HB4 HS0;by_cases hlt:k<n
    ·
     have hltI:(k:Int)<(n:Int):=by omega
     have HK:=af hlt;obtain⟨g,rfl⟩:=aQ.somes (ae HOw) (by rw[ae HN];omega);have c0:=(uu (ae HN) ((ae HOw).later (ae HBr) (a0a _)) k hlt).1;have C1k:=af (ae C1 k wr (ae HBr));rw[(ae HD k hlt).1]at C1k;have hsz:((bz (l.drop (k+1))).size:Int)<((bz (l.drop k)).size:Int):=by have:=(ae HD k hlt).2;omega
     have hszN:¬ (bz (l.drop k)).size<=(bz (l.drop (k+1))).size:=by omega
     clear hlt hk HD C1 C0 HSs HSn;generalize (l.getD k default).n=nm at *
     obtain⟨S1,hS1⟩:∃x,bz (l.drop (k+1))=x:=⟨_,rfl⟩;obtain⟨S0,hS0⟩:∃x,bz (l.drop k)=x:=⟨_,rfl⟩;have HS1:=af hS1;rw[hS1]at C1k hsz hszN;rw[hS0]at C1k hsz hszN;rw[hS0];clear hS0 hS1;go_wp2_with fail;refine(ae C1k).mono ?_;rintro e w5 ⟨rfl,hb5⟩;have HB5:=af (ag (ae HBr) hb5);clear hb5 C1k HBr c0;go_wp2_with fail;go_roundw
     case rel=>exact⟨k+1,by have:=ae HK;omega,by go_num,by rw[ae HS1],ae HB5⟩
     case measure=>have:=ae HK;simp[intOf];omega
    ·
     have hltI:¬ (k:Int)<(n:Int):=by omega
     obtain rfl:k=n:=by omega
     rw[ae HSn];have C0r:=af (ae C0 wr (ae HBr));clear C0 C1 HD HSs HSn;generalize bz []=S at *
     go_wp2_with fail;refine(ae C0r).mono ?_;rintro e w5 ⟨rfl,hb5⟩;have HB5:=af (ag (ae HB1) (ag (ae HBr) hb5));clear hb5 C0r;go_wp2;go_ret;exact⟨rfl,ae HB5⟩
 · go_enter Tryz.func6,Tryz.ntmps6;go_wp2;go_ret;exact⟨rfl,a0b _ _⟩
theorem EK(a:Option Addr)(len cap:Nat)(zs:List Int)(m:Int)(w:World)(w0:pU .u8 w a len cap zs)(hm:w.cell? ⟨2,0,none⟩=some (.int .i64 m))(hg:iq w)(hO:bY w) :
  Calls Tryz.prog 4 #[.slice a len cap] w fun e w'=>e = .returned (.bool true)/\Below w.heap.size w w':=by
 obtain⟨⟨z,hsrc⟩,hc,hlen⟩:=rI w0;have HDr:=af (fR a len cap z w hsrc hc hlen);have CW:=af (fun W (hb:Below w.heap.size w W)=>a0c ((hb.cell (p:=⟨2,0,none⟩) (World.block_lt_of_cell? _ _ hm)).trans hm) (a0c (hg.later hb) (hO.later hb)));unfold maxLen at hlen;clear w0 hsrc hm hg hO;by_cases hl:(len:Int)<=1048576
 ·
  go_enter Tryz.func4,Tryz.ntmps4;go_wp2_with fail;refine(ae HDr).mono ?_;rintro e w1 ⟨⟨v,l,rfl,ho,h7,hT,hNm⟩,hb1⟩;obtain⟨n,hn⟩:∃n,l.length=n:=⟨_,rfl⟩;obtain⟨ga,tc,rfl,hcap,_⟩:=aQ.formN hn ho;have HN:=af hn;have HOw:=af ho;have HNm:=af hNm;have HB1:=af hb1;have HT:=af (pM hn hT);have hnI:(n:Int)<=7:=by omega
  have hcI:(n:Int)<=(tc:Int):=by omega
  have CI:=af (dY ga tc l n hn m w1 (bq hn ho) (by omega) hcI (ae HT) (ae CW w1 hb1).1 (ae CW w1 hb1).2.1);have CS:=af (fun W (hW:Below w1.heap.size w1 W)=>fV ga tc l n hn W (bq hn (ho.later hW (a0a _))) (by omega) (ae HT));have CP:=af (fun W (hW:Below w1.heap.size w1 W)=>bB ga tc l n hn m W (bq hn (ho.later hW (a0a _))) (by omega) hcI (ae HT) (ae CW W (ag (ae HB1) hW)).1 (ae CW W (ag (ae HB1) hW)).2.1 (ae CW W (ag (ae HB1) hW)).2.2);clear ho hb1 hT h7 hn HDr hNm hlen hc;generalize hzb:aY l=zb at *
  go_wp2_with fail;refine(ae CI).mono ?_;rintro e w2 ⟨rfl,hb2⟩;have HB2:=af hb2;clear hb2 CI;go_wp2_with fail;refine(ae CS w2 (ae HB2)).mono ?_;rintro e w3 ⟨rfl,hb3⟩;have HB3:=af (ag (ae HB2) hb3);clear hb3 HB2;cases zb
  · go_wp2_with fail;refine(ae CS w3 (ae HB3)).mono ?_;rintro e w4 ⟨rfl,hb4⟩;have HB4:=af (ag (ae HB1) (ag (ae HB3) hb4));clear hb4;go_wp2;go_ret;exact⟨rfl,ae HB4⟩
  ·
   have HZ:=af hzb;clear hzb;go_wp2_with fail;refine(ae CP w3 (ae HB3)).mono ?_;rintro e w4 ⟨rfl,hb4⟩;have HB4:=af (ag (ae HB3) hb4);clear hb4 HB3 CS CP;have HSs:=af (io l);have HG:=af (ea (ae HZ));have HU:=af (fun k (hk:k<n)=>IX (ae HZ) (e:=l.getD k default) (f:={ l.getD k default with n:=(l.getD k default).n++⟨#[47,120]⟩ }) (by simp[List.getD,(ae HN),hk]) rfl);have HE:=af (fun k (hk:k<n)=>rV (ae HZ) k (by rw[ae HN];exact hk));generalize bz l=S at *
   go_wp2_with fail
   go_loopw [6,7,8,9] (fun i _ _ _ wr=>∃k:Nat,k<=n/\i = .int .i64 k/\Below w1.heap.size w1 wr) (fun i _ _ _ _=>n-(intOf i).toNat)
   case atStart=>exact⟨0,a0h _,rfl,ae HB4⟩
   case round=>
    obtain⟨k,hk,rfl,hbr⟩:=hrel;have HBr:=af hbr;clear hbr HB4;by_cases hlt:k<n
    ·
     have hltI:(k:Int)<(n:Int):=by omega
     have HK:=af hlt;obtain⟨g,rfl⟩:=aQ.somes (ae HOw) (by rw[ae HN];omega);obtain⟨c0,c1,c2,c3,c4,c5,c6,c7⟩:=uu (ae HN) ((ae HOw).later (ae HBr) (a0a _)) k hlt;have hr:=ae HU k hlt;have hts:=ae HE k hlt;have hA:=af (vV (c:=aH l { l.getD k default with n:=(l.getD k default).n++⟨#[47,120]⟩ }) (ae HG) (vt hr) hr);have hns:((l.getD k default).n++(⟨#[47,120]⟩:ByteArray)).size<=1048576:=by rw[a0z];have:(⟨#[47,120]⟩:ByteArray).size=2:=rfl;omega
     have CA:=af (fun(W:World) (hW:Below w1.heap.size w1 W)=>hH S { l.getD k default with n:=(l.getD k default).n++⟨#[47,120]⟩ } m W (by have:=ae HSs;omega) hns (by show((l.getD k default).t.size:Int)<=_;omega) (ae CW W (ag (ae HB1) hW)).1 (ae CW W (ag (ae HB1) hW)).2.1 (ae CW W (ag (ae HB1) hW)).2.2);rw[ae hA]at CA;have hadd:¬ (9223372036854775807:Nat)<(l.getD k default).n.size+(⟨#[47,120]⟩:ByteArray).size:=by have:(⟨#[47,120]⟩:ByteArray).size=2:=rfl;omega
     have HBA:=af ((ae HBr).alloc (ae HBr).size (.cells #[.string ((l.getD k default).n++⟨#[47,120]⟩),.int .i64 (l.getD k default).y,.int .i64 (l.getD k default).mo,.int .i64 (l.getD k default).d,.int .i64 (l.getD k default).h,.int .i64 (l.getD k default).mi,.int .i64 (l.getD k default).s,.string (l.getD k default).t] 26));generalize aH l { l.getD k default with n:=(l.getD k default).n++⟨#[47,120]⟩ } = rc at *
     clear hlt hk HU HE hts hA hns HG;go_wp2_with fail;refine(ae CA _ (ae HBA)).mono ?_;rintro e w5 ⟨rfl,hb5⟩;have HB5:=af (ag (ae HBA) hb5);clear hb5 CA HBr HBA c0 c1 c2 c3 c4 c5 c6 c7;go_wp2_with fail;go_roundw
     case rel=>exact⟨k+1,by have:=ae HK;omega,by go_num,ae HB5⟩
     case measure=>have:=ae HK;simp[intOf];omega
    ·
     have hltI:¬ (k:Int)<(n:Int):=by omega
     have HB5:=af (ag (ae HB1) (ae HBr));go_wp2;go_ret;exact⟨rfl,ae HB5⟩
 · go_enter Tryz.func4,Tryz.ntmps4;go_wp2;go_ret;exact⟨rfl,a0b _ _⟩
theorem LR{e:En}(h1:e.n.size<=1048576)(h2:(e.t.size:Int)<=9223372036854775807):∀i,i<1->(([e]:List En).getD i default).n.size<=1048576/\((([e]:List En).getD i default).t.size:Int)<=9223372036854775807:=fun i hi=>by
 have:i=0:=by omega
 subst this;exact⟨h1,h2⟩
theorem qp(a:Option Addr)(len cap:Nat)(zs:List Int)(m:Int)(w:World)(w0:pU .u8 w a len cap zs)(hm:w.cell? ⟨2,0,none⟩=some (.int .i64 m))(hg:iq w)(hO:bY w) :
  Calls Tryz.prog 3 #[.slice a len cap] w fun e w'=>e = .returned (.bool true)/\Below w.heap.size w w':=by
 obtain⟨⟨z,hsrc⟩,hc,hlen⟩:=rI w0;have HDr:=af (pm a len cap z w hsrc hc hlen);have CW:=af (fun W (hb:Below w.heap.size w W)=>a0c ((hb.cell (p:=⟨2,0,none⟩) (World.block_lt_of_cell? _ _ hm)).trans hm) (a0c (hg.later hb) (hO.later hb)));unfold maxLen at hlen;clear w0 hsrc hm hg hO;by_cases hl:(len:Int)<=1048576
 ·
  go_enter Tryz.func3,Tryz.ntmps3;go_wp2_with fail;refine(ae HDr).mono ?_;rintro e w1 ⟨n,y,mo,d,h,mi,s,t,rfl,⟨hn,ht⟩,hb1⟩;have HN:Hid (n.size<=1048576):=by show _<=_;omega
  have htI:(t.size:Int)<=9223372036854775807:=by omega
  have HBA:=af (hb1.alloc hb1.size (.cells #[.string n,.int .i64 y,.int .i64 mo,.int .i64 d,.int .i64 h,.int .i64 mi,.int .i64 s,.string t] 26));have P:=af (az w1 #[.string n,.int .i64 y,.int .i64 mo,.int .i64 d,.int .i64 h,.int .i64 mi,.int .i64 s,.string t] 26);have HG:=af (ea pR);have HS:=af Ja;clear hn ht hb1 HDr hlen hc;go_wp2_with fail;refine(gm n y mo d h mi s t m _ (ae HN) htI (ae CW _ (ae HBA)).1).mono ?_;rintro e w2 ⟨rfl,hb2⟩;have HB2:=af (ag (ae HBA) hb2);have P2:=af ((ae P).later hb2 (ae P).1);have C0:=af (bB none 0 [] 0 rfl m w2 (fun h=>absurd h (by simp)) (by omega) (by omega) (fun i hi=>absurd hi (by omega)) (ae CW w2 (ae HB2)).1 (ae CW w2 (ae HB2)).2.1 (ae CW w2 (ae HB2)).2.2);clear hb2 P HBA;generalize bz []=S at *
  have hSI:(S.size:Int)=22:=by have:=ae HS;omega
  go_wp2_with fail;refine(ae C0).mono ?_;rintro e w3 ⟨rfl,hb3⟩;have HB3:=af (ag (ae HB2) hb3);have P3:=af ((ae P2).later hb3 (ae P2).1);have CG:=af (dH S m w3 (by omega) (ae CW w3 (ae HB3)).1 (ae CW w3 (ae HB3)).2.1 (ae CW w3 (ae HB3)).2.2);rw[ae HG]at CG;clear hb3 P2 HB2 C0;go_wp2_with fail;refine(ae CG).mono ?_;rintro e w4 ⟨⟨v,rfl,hv⟩,hb4⟩;obtain⟨va,vc,rfl,_,_⟩:=aQ.formN (n:=0) rfl hv;have HB4:=af (ag (ae HB3) hb4);have P4:=af ((ae P3).later hb4 (ae P3).1);clear hb4 hv P3 HB3 CG;have pA:=(ae P4).cells (n:=8) rfl;go_wp2_with fail;refine(ee n y mo d h mi s t _ (ae HN) htI).mono ?_;rintro e w5 ⟨rfl,hb5⟩;have HB5:=af (ag (ae HB4) hb5);have P5:=af ((ae P4).later hb5 (ae P4).1);clear hb5 P4 HB4 pA;have pA:=(ae P5).cells (n:=8) rfl;cases hk:eZ n y mo d h mi s t
  · go_wp2_with fail;refine(ee n y mo d h mi s t _ (ae HN) htI).mono ?_;rintro e w6 ⟨rfl,hb6⟩;have HB6:=af (ag (ae HB5) hb6);clear hb6;rw[hk];go_wp2;go_ret;exact⟨rfl,ae HB6⟩
  ·
   have hr:=Ig (e:=⟨n,y,mo,d,h,mi,s,t⟩) hk;have hz1:aY [⟨n,y,mo,d,h,mi,s,t⟩]=true:=(eK pR _).2 hr;have hA:=nU (ae HG) (vr hr);have CA:=af (hH S ⟨n,y,mo,d,h,mi,s,t⟩ m w5 (by omega) (ae HN) htI (ae CW w5 (ae HB5)).1 (ae CW w5 (ae HB5)).2.1 (ae CW w5 (ae HB5)).2.2);rw[hA]at CA;have HG1:=af (ea hz1);have HS1:=af (io [⟨n,y,mo,d,h,mi,s,t⟩]);have CP:=af (fun(W:World) (hW:Below w.heap.size w W) (g:Nat) (hB:Blk W g (bp ⟨n,y,mo,d,h,mi,s,t⟩))=>bB (some ⟨g,0,none⟩) 1 [⟨n,y,mo,d,h,mi,s,t⟩] 1 rfl m W (xy hB) (by omega) (by omega) (fun i hi=>LR (ae HN) htI i hi) (ae CW W hW).1 (ae CW W hW).2.1 (ae CW W hW).2.2);have CN:=af (fun(W:World) (hW:Below w.heap.size w W)=>jb (bz [⟨n,y,mo,d,h,mi,s,t⟩]) m W (by have:=ae HS1;omega) (ae CW W hW).1 (ae CW W hW).2.1 (ae CW W hW).2.2);rw[ae HG1]at CN;clear hr hz1 hA hk;rw[a0R]at CA;generalize bz [⟨n,y,mo,d,h,mi,s,t⟩]=X at *
   go_wp2_with fail;refine(ae CA).mono ?_;rintro e w6 ⟨rfl,hb6⟩;have HB6:=af (ag (ae HB5) hb6);have P6:=af ((ae P5).later hb6 (ae P5).1);clear hb6 P5 HB5 pA CA;have pA:=(ae P6).cells (n:=8) rfl;have HBC:=af ((ae HB6).alloc (ae HB6).size (.cells #[.string n,.int .i64 y,.int .i64 mo,.int .i64 d,.int .i64 h,.int .i64 mi,.int .i64 s,.string t] 26));have PC:=af (az w6 #[.string n,.int .i64 y,.int .i64 mo,.int .i64 d,.int .i64 h,.int .i64 mi,.int .i64 s,.string t] 26);go_wp2_with fail;refine(ae CP _ (ae HBC) _ (ae PC)).mono ?_;rintro e w7 ⟨rfl,hb7⟩;have HB7:=af (ag (ae HBC) hb7);clear hb7 HBC PC P6 HB6 pA CP;go_wp2_with fail;refine(ae CN w7 (ae HB7)).mono ?_;rintro e w8 ⟨⟨v8,rfl,hv8⟩,hb8⟩;obtain⟨a8,c8,rfl,_,_⟩:=aQ.formN (n:=1) rfl hv8;have HB8:=af (ag (ae HB7) hb8);clear hb8 hv8 HB7 CN;go_wp2;go_ret;exact⟨rfl,ae HB8⟩
 · go_enter Tryz.func3,Tryz.ntmps3;go_wp2;go_ret;exact⟨rfl,a0b _ _⟩
theorem FZ(k:Nat)(hk:k<7):([.string ⟨#[102,114,101,115,104,49]⟩,.string ⟨#[102,114,101,115,104,50]⟩,.string ⟨#[102,114,101,115,104,51]⟩,.string ⟨#[102,114,101,115,104,52]⟩,.string ⟨#[102,114,101,115,104,53]⟩,.string ⟨#[102,114,101,115,104,54]⟩,.string ⟨#[102,114,101,115,104,55]⟩]:List Value)[k]?=some (.string (frN k)):=by
 rcases (by omega:k=0∨k=1∨k=2∨k=3∨k=4∨k=5∨k=6)with rfl|rfl|rfl|rfl|rfl|rfl|rfl<;>rfl
theorem FW(a:Option Addr)(len cap:Nat)(zs:List Int)(m:Int)(w:World)(w0:pU .u8 w a len cap zs)(hm:w.cell? ⟨2,0,none⟩=some (.int .i64 m))(hg:iq w)(hO:bY w) :
  Calls Tryz.prog 5 #[.slice a len cap] w fun e w'=>e = .returned (.bool true)/\Below w.heap.size w w':=by
 obtain⟨⟨z,hsrc⟩,hc,hlen⟩:=rI w0;have HDr:=af (fR a len cap z w hsrc hc hlen);have CW:=af (fun W (hb:Below w.heap.size w W)=>a0c ((hb.cell (p:=⟨2,0,none⟩) (World.block_lt_of_cell? _ _ hm)).trans hm) (a0c (hg.later hb) (hO.later hb)));unfold maxLen at hlen;clear w0 hsrc hm hg hO;by_cases hl:(len:Int)<=1048576
 ·
  go_enter Tryz.func5,Tryz.ntmps5;go_wp2_with fail;refine(ae HDr).mono ?_;rintro e w1 ⟨⟨v,l,rfl,ho,h7,hT,hNm⟩,hb1⟩;obtain⟨n,hn⟩:∃n,l.length=n:=⟨_,rfl⟩;obtain⟨ga,tc,rfl,hcap,_⟩:=aQ.formN hn ho;have HN:=af hn;have HOw:=af ho;have HNm:=af hNm;have HB1:=af hb1;have HT:=af (pM hn hT);have hnI:(n:Int)<=7:=by omega
  have hcI:(n:Int)<=(tc:Int):=by omega
  have CI:=af (dY ga tc l n hn m w1 (bq hn ho) (by omega) hcI (ae HT) (ae CW w1 hb1).1 (ae CW w1 hb1).2.1);have CS:=af (fun W (hW:Below w1.heap.size w1 W)=>fV ga tc l n hn W (bq hn (ho.later hW (a0a _))) (by omega) (ae HT));have CP:=af (fun W (hW:Below w1.heap.size w1 W)=>bB ga tc l n hn m W (bq hn (ho.later hW (a0a _))) (by omega) hcI (ae HT) (ae CW W (ag (ae HB1) hW)).1 (ae CW W (ag (ae HB1) hW)).2.1 (ae CW W (ag (ae HB1) hW)).2.2);clear ho hb1 hT h7 hn HDr hNm hlen hc;generalize hzb:aY l=zb at *
  go_wp2_with fail;refine(ae CI).mono ?_;rintro e w2 ⟨rfl,hb2⟩;have HB2:=af hb2;clear hb2 CI;go_wp2_with fail;refine(ae CS w2 (ae HB2)).mono ?_;rintro e w3 ⟨rfl,hb3⟩;have HB3:=af (ag (ae HB2) hb3);clear hb3 HB2;cases zb
  · go_wp2_with fail;refine(ae CS w3 (ae HB3)).mono ?_;rintro e w4 ⟨rfl,hb4⟩;have HB4:=af (ag (ae HB1) (ag (ae HB3) hb4));clear hb4;go_wp2;go_ret;exact⟨rfl,ae HB4⟩
  ·
   have HZ:=af hzb;clear hzb;go_wp2_with fail;refine(ae CP w3 (ae HB3)).mono ?_;rintro e w4 ⟨rfl,hb4⟩;have HB4:=af (ag (ae HB3) hb4);clear hb4 HB3 CS CP;have HSs:Hid (∀L:List En,(bz L).size<=4000):=fun L=>io L;have HFr:=af (JL (ae HZ) (ae HNm));have C1:=af (fun(k:Nat) (L:List En) (W:World) (hW:Below w1.heap.size w1 W)=>hH (bz L) (frE k) m W (by have:=ae HSs L;omega) (by show(frN k).size<=_;have:(frN k).size=6:=rfl;omega) (by show((⟨#[]⟩:ByteArray).size:Int)<=_;decide) (ae CW W (ag (ae HB1) hW)).1 (ae CW W (ag (ae HB1) hW)).2.1 (ae CW W (ag (ae HB1) hW)).2.2);have C2:=af (fun(L:List En) (W:World) (hW:Below w1.heap.size w1 W)=>jb (bz L) m W (by have:=ae HSs L;omega) (ae CW W (ag (ae HB1) hW)).1 (ae CW W (ag (ae HB1) hW)).2.1 (ae CW W (ag (ae HB1) hW)).2.2);have hn6:(n:Int)<=6:=by have:=(da (ae HZ)).2;have:=ae HN;omega
   have HA1:=(a0b w4.heap.size w4).alloc (a0a _) (.cells #[.string ⟨#[]⟩,.int .i64 2000,.int .i64 1,.int .i64 1,.int .i64 0,.int .i64 0,.int .i64 0,.string ⟨#[]⟩] 26);have HA:=af (((ae HB4).alloc (ae HB4).size (.cells #[.string ⟨#[]⟩,.int .i64 2000,.int .i64 1,.int .i64 1,.int .i64 0,.int .i64 0,.int .i64 0,.string ⟨#[]⟩] 26)).alloc (ay (ae HB4).size _) (.cells #[.string ⟨#[102,114,101,115,104,49]⟩,.string ⟨#[102,114,101,115,104,50]⟩,.string ⟨#[102,114,101,115,104,51]⟩,.string ⟨#[102,114,101,115,104,52]⟩,.string ⟨#[102,114,101,115,104,53]⟩,.string ⟨#[102,114,101,115,104,54]⟩,.string ⟨#[102,114,101,115,104,55]⟩] 9));have HP0:Hid (Blk ((w4.alloc (.cells #[.string ⟨#[]⟩,.int .i64 2000,.int .i64 1,.int .i64 1,.int .i64 0,.int .i64 0,.int .i64 0,.string ⟨#[]⟩] 26)).alloc (.cells #[.string ⟨#[102,114,101,115,104,49]⟩,.string ⟨#[102,114,101,115,104,50]⟩,.string ⟨#[102,114,101,115,104,51]⟩,.string ⟨#[102,114,101,115,104,52]⟩,.string ⟨#[102,114,101,115,104,53]⟩,.string ⟨#[102,114,101,115,104,54]⟩,.string ⟨#[102,114,101,115,104,55]⟩] 9)) w4.heap.size [.string ⟨#[]⟩,.int .i64 2000,.int .i64 1,.int .i64 1,.int .i64 0,.int .i64 0,.int .i64 0,.string ⟨#[]⟩]):=(az w4 #[.string ⟨#[]⟩,.int .i64 2000,.int .i64 1,.int .i64 1,.int .i64 0,.int .i64 0,.int .i64 0,.string ⟨#[]⟩] 26).later ((a0b _ _).alloc (a0a _) _) (az w4 #[.string ⟨#[]⟩,.int .i64 2000,.int .i64 1,.int .i64 1,.int .i64 0,.int .i64 0,.int .i64 0,.string ⟨#[]⟩] 26).1;have HQ0:Hid (Blk ((w4.alloc (.cells #[.string ⟨#[]⟩,.int .i64 2000,.int .i64 1,.int .i64 1,.int .i64 0,.int .i64 0,.int .i64 0,.string ⟨#[]⟩] 26)).alloc (.cells #[.string ⟨#[102,114,101,115,104,49]⟩,.string ⟨#[102,114,101,115,104,50]⟩,.string ⟨#[102,114,101,115,104,51]⟩,.string ⟨#[102,114,101,115,104,52]⟩,.string ⟨#[102,114,101,115,104,53]⟩,.string ⟨#[102,114,101,115,104,54]⟩,.string ⟨#[102,114,101,115,104,55]⟩] 9)) (w4.heap.size+1) [.string ⟨#[102,114,101,115,104,49]⟩,.string ⟨#[102,114,101,115,104,50]⟩,.string ⟨#[102,114,101,115,104,51]⟩,.string ⟨#[102,114,101,115,104,52]⟩,.string ⟨#[102,114,101,115,104,53]⟩,.string ⟨#[102,114,101,115,104,54]⟩,.string ⟨#[102,114,101,115,104,55]⟩]):=by
    have:=az (w4.alloc (.cells #[.string ⟨#[]⟩,.int .i64 2000,.int .i64 1,.int .i64 1,.int .i64 0,.int .i64 0,.int .i64 0,.string ⟨#[]⟩] 26)) #[.string ⟨#[102,114,101,115,104,49]⟩,.string ⟨#[102,114,101,115,104,50]⟩,.string ⟨#[102,114,101,115,104,51]⟩,.string ⟨#[102,114,101,115,104,52]⟩,.string ⟨#[102,114,101,115,104,53]⟩,.string ⟨#[102,114,101,115,104,54]⟩,.string ⟨#[102,114,101,115,104,55]⟩] 9;rw[show(w4.alloc (.cells #[.string ⟨#[]⟩,.int .i64 2000,.int .i64 1,.int .i64 1,.int .i64 0,.int .i64 0,.int .i64 0,.string ⟨#[]⟩] 26)).heap.size=w4.heap.size+1 by simp]at this;exact this
   have HS4:=af (ae HB4).size;clear HA1;generalize hS:bz l=S at *
   go_wp2_with fail
   go_loopw [5,8,9,10] (fun s i _ _ wr=>∃(k:Nat) (L:List En) (x:ByteArray),k<=7/\i = .int .i64 k/\s = .string (bz L)/\L.length=min 6 (n+k)/\tW L k/\Below w1.heap.size w1 wr/\Blk wr w4.heap.size [.string x,.int .i64 2000,.int .i64 1,.int .i64 1,.int .i64 0,.int .i64 0,.int .i64 0,.string ⟨#[]⟩]/\Blk wr (w4.heap.size+1) [.string ⟨#[102,114,101,115,104,49]⟩,.string ⟨#[102,114,101,115,104,50]⟩,.string ⟨#[102,114,101,115,104,51]⟩,.string ⟨#[102,114,101,115,104,52]⟩,.string ⟨#[102,114,101,115,104,53]⟩,.string ⟨#[102,114,101,115,104,54]⟩,.string ⟨#[102,114,101,115,104,55]⟩]) (fun _ i _ _ _=>7-(intOf i).toNat)
   case atStart=>exact⟨0,l,⟨#[]⟩,by omega,rfl,by rw[hS],by have:=ae HN;omega,ae HFr,ae HA,ae HP0,ae HQ0⟩
   case round=>
    obtain⟨k,L,x,hk,rfl,rfl,hL,hF,hbr,hp,hq⟩:=hrel;clear HA HP0 HQ0 HFr;by_cases hlt:k<7
    ·
     have hltI:(k:Int)<7:=by omega
     have cN:=hq.cell k _ (FZ k hlt);have pA:=hp.cells (n:=8) rfl;have f0:=hp.free 0 (by simp);have HP1:Hid (Blk (wr.setCell ⟨w4.heap.size,0,none⟩ (.string (frN k))) w4.heap.size [.string (frN k),.int .i64 2000,.int .i64 1,.int .i64 1,.int .i64 0,.int .i64 0,.int .i64 0,.string ⟨#[]⟩]):=hp.set 0 _;have HQ1:=af (hq.set_other (c:=w4.heap.size) (o:=0) (.string (frN k)) (by omega));have HB2:=af (ah (o:=0) hbr (ae HS4) (.string (frN k)));have C1k:=af (ae C1 k L _ (ae HB2));have hr:=AW hF hlt;have HK:=af (a0c hlt (a0c hL hF));have hkn:IntKind.i64.wrap ((n:Int)+(k:Int))=(n:Int)+(k:Int):=by rw[show(n:Int)+(k:Int)=((n+k:Nat):Int) by omega];exact dM _ (by omega)
     clear hq hp hbr C1 C2;by_cases h6:6<=L.length
     ·
      rw[a0d h6]at hr;rw[vV (ea hF.1) (by rw[vt (by rw[hr];decide),hr]) (by decide)]at C1k;have h6I:¬ (n:Int)+(k:Int)<6:=by omega
      have HNX:Hid (L.length=min 6 (n+(k+1))/\tW L (k+1)):=⟨by omega,JJ hF⟩;clear hF hL hr h6 HK hlt;generalize hS0:bz L=S0 at *
      have HS0:=af hS0;clear hS0;go_wp2_with fail;refine(ae C1k).mono ?_;rintro e w5 ⟨rfl,hb5⟩;have HB5:=af (ag (ae HB2) hb5);have HP5:=af ((ae HP1).later hb5 (ae HP1).1);have HQ5:=af ((ae HQ1).later hb5 (ae HQ1).1);clear hb5 C1k HB2 HP1 HQ1 cN pA f0;go_wp2_with fail;go_roundw
      case rel=>exact⟨k+1,L,frN k,by omega,by go_num,by rw[ae HS0],(ae HNX).1,(ae HNX).2,ae HB5,ae HP5,ae HQ5⟩
      case measure=>simp[intOf];omega
     ·
      rw[a0e h6]at hr;rw[nU (ea hF.1) (vr hr)]at C1k;have h6I:(n:Int)+(k:Int)<6:=by omega
      have HNX:Hid ((L++[frE k]).length=min 6 (n+(k+1))/\tW (L++[frE k]) (k+1)):=⟨by rw[a0i];show _+1=_;omega,JK hF hlt (by omega)⟩;clear hF hL hr h6 HK hlt;generalize hS0:bz L=S0 at *
      generalize hS1:bz (L++[frE k])=S1 at *
      have HS1:=af hS1;clear hS0 hS1;go_wp2_with fail;refine(ae C1k).mono ?_;rintro e w5 ⟨rfl,hb5⟩;have HB5:=af (ag (ae HB2) hb5);have HP5:=af ((ae HP1).later hb5 (ae HP1).1);have HQ5:=af ((ae HQ1).later hb5 (ae HQ1).1);clear hb5 C1k HB2 HP1 HQ1 cN pA f0;go_wp2_with fail;go_roundw
      case rel=>exact⟨k+1,L++[frE k],frN k,by omega,by go_num,by rw[ae HS1],(ae HNX).1,(ae HNX).2,ae HB5,ae HP5,ae HQ5⟩
      case measure=>simp[intOf];omega
    ·
     have hltI:¬ (k:Int)<7:=by omega
     obtain rfl:k=7:=by omega
     have C2r:=af (ae C2 L wr hbr);rw[ea hF.1]at C2r;have HBr:=af hbr;have HL:=af (show L.length=6 by omega);clear hp hq hbr hF hL C1 C2;go_wp2_with fail;refine(ae C2r).mono ?_;rintro e w5 ⟨⟨v8,rfl,hv8⟩,hb8⟩;obtain⟨a8,c8,rfl,_,_⟩:=aQ.formN (n:=6) (by show(rj L).length=6;rw[xl];exact ae HL) hv8;have HB8:=af (ag (ae HB1) (ag (ae HBr) hb8));clear hb8 hv8;go_wp2;go_ret;exact⟨rfl,ae HB8⟩
 · go_enter Tryz.func5,Tryz.ntmps5;go_wp2;go_ret;exact⟨rfl,a0b _ _⟩
end Go.Proofs.YtfhdadkcophoaaaGreatDoor
