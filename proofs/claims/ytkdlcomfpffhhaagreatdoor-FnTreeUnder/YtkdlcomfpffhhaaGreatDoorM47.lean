/- Of what the proof is made: 4 texts, one behind the other. -/
import Derived.Test.YtkdlcomfpffhhaaGreatDoorM29
import Derived.Test.YtkdlcomfpffhhaaGreatDoorM45
import Derived.Test.YtkdlcomfpffhhaaGreatDoorM41
import Derived.Test.YtkdlcomfpffhhaaGreatDoorM32
import Derived.Test.YtkdlcomfpffhhaaGreatDoorM46
import Derived.Deep.RegionWith
import Derived.BigQuiet
import Derived.Deep.QuietTactic
set_option linter.unusedSimpArgs false
set_option linter.unusedVariables false
set_option maxHeartbeats 12800000
namespace Go.Proofs.YtkdlcomfpffhhaaGreatDoor
open Go.RowKit Corb
def enF(e:En):Fl:=⟨e.n,e.t⟩
def dJ(l:List Fl)(fs:List En):List Fl:=fs.foldl (fun t e=>bH t (enF e)) l
def gp(l:List Fl)(s:ByteArray):List Fl×Int:=
 if (eM s).isSome=true/\dh l=true then
  if 8<(dJ l ((eM s).getD [])).length then(l,4)else if dh (dJ l ((eM s).getD []))=true then(dJ l ((eM s).getD []),0)else(l,3)
 else([],1)
theorem yk{l:List Fl}(h:dh l=true)(i:Nat)(hi:i<l.length):km l i=true:=by
 unfold dh at h;rw[a0i]at h;exact a0R.1 h.1 i (List.mem_range.2 hi)
theorem IV{l:List Fl}(h:dh l=true):l.length<=8:=by
 unfold dh at h;rw[a0i]at h;simpa using h.2
theorem Ey{l:List Fl}(h:dh l=true):gN l:=by
 unfold gN;rw[List.pairwise_iff_getElem];intro i j hi hj hij;have:=I7 (l:=l) l.length (fun i hi=>by
  have h1:=yk h i hi;unfold km at h1;rw[a0i,a0i]at h1;exact h1.2.1) j hj i hij
 simpa[pA,hi,hj]using this
def nG(f:Fl):Prop:=f.p.size<=43/\f.t.size<=300
theorem Ar{l:List Fl}(h:dh l=true):∀f∈l,nG f:=by
 intro f hf;obtain⟨i,hi,rfl⟩:=List.mem_iff_getElem.1 hf;have h1:=yk h i hi;unfold km pd at h1;rw[a0i,a0i]at h1;have h2:=h1.1;have e:l.getD i default=l[i]:=by simp[hi]
 unfold pA at h2;rw[e]at h2;exact⟨by have:=rl h2.1;simpa using this,by simpa using h2.2⟩
theorem ER{s:ByteArray}{fs:List En}(h:eM s=some fs):fs.length<=6/\∀e∈fs,nG (enF e):=by
 obtain⟨m,q,_,rfl,hz,_⟩:=oD h;refine⟨(jB hz).2,fun e he=>?_⟩;obtain⟨i,hi,rfl⟩:=List.mem_iff_getElem.1 he;have h1:=(jB hz).1 i hi;have e:q.1.getD i default=q.1[i]:=by simp[hi]
 rw[e]at h1;obtain⟨a,b,_⟩:=cK (n:=q.1[i].n) (t:=q.1[i].t) h1;exact⟨a,b⟩
theorem tf{l:List Fl}(h:gN l)(fs:List En):gN (dJ l fs):=by
 induction fs generalizing l with
 | nil=>exact h
 | cons e fs ih=>exact ih (D7 _ h)
theorem Gp(l:List Fl)(fs:List En):(dJ l fs).length<=l.length+fs.length:=by
 induction fs generalizing l with
 | nil=>exact a0a _
 | cons e fs ih=>
  have h1:=ih (bH l (enF e));have h2:=H9 l (enF e);simp only[dJ,List.foldl_cons,a0B]at h1 ⊢;omega
theorem zC{l:List Fl}{fs:List En}(h:∀f∈l,nG f)(hf:∀e∈fs,nG (enF e)):∀f∈dJ l fs,nG f:=by
 induction fs generalizing l with
 | nil=>exact h
 | cons e fs ih=>
  refine ih (fun f hm=>?_) (fun e he=>hf e (a1Z _ he));rcases rz hm with rfl|hm
  · exact hf e (by simp)
  · exact h f hm
theorem xQ{l:List Fl}{n:Nat}(hn:l.length=n)(h:∀f∈l,nG f):pX l n:=by
 intro i hi;have hi':i<l.length:=by omega
 have e:l.getD i default=l[i]:=by simp[hi']
 obtain⟨h1,h2⟩:=h l[i] (a1P hi');unfold pA;rw[e];exact⟨by omega,by omega⟩
theorem tg{l:List Fl}(h:gN l)(k:Nat):(l.take k).foldl bH []=l.take k:=by
 have:=Ea (a:=[]) (l:=l.take k) (by rw[a04];exact List.Pairwise.sublist (List.take_sublist k l) h);simpa using this
theorem Dk(l:List Fl)(fs:List En)(k:Nat)(h:k<fs.length):dJ l (fs.take (k+1))=bH (dJ l (fs.take k)) (enF (fs.getD k default)):=by
 unfold dJ;rw[a1c h,a3r];simp[h]
set_option maxRecDepth 100000
theorem og(a:Option Addr)(cap n:Nat)(l:List Fl)(s:ByteArray)(hn:l.length=n)(m:Int)(w:World)(h:nE w a l)(hl:(n:Int)<=1048576)(hcap:(n:Int)<=(cap:Int))(hs:pX l n)
  (hS:s.size<=1048576) (hm:w.cell? ⟨2,0,none⟩=some (.int .i64 m)) (hg:pq w) (hO:dk w) :
  Calls Tryz.prog 10 #[.slice a n cap,.string s] w fun e w'=>(∃v,e = .returned (.tuple #[v,.int .i64 (gp l s).2])/\gt w' w.heap.size v (gp l s).1)/\Below w.heap.size w w':=by
 have CZ:=af (qD s m w hS hm hg hO);have CM:=af (fun W (hb:Below w.heap.size w W)=>(hb.cell (p:=⟨2,0,none⟩) (World.block_lt_of_cell? _ _ hm)).trans hm);have Hn:=af hn;have HR:=af h;have HS:=af hs;clear hn h hs hS hm hg hO;go_enter Tryz.func10,Tryz.ntmps10;go_wp2_with fail;refine(ae CZ).mono ?_;rintro e x1 ⟨⟨v,rfl,hown⟩,hb1⟩;have HB1:=af hb1;obtain⟨fs,hfs⟩:∃fs,(eM s).getD []=fs:=⟨_,rfl⟩;rw[hfs]at hown;obtain⟨N,hN⟩:∃N,fs.length=N:=⟨_,rfl⟩;obtain⟨va,vc,rfl,hvc,_⟩:=hown.formN hN;have HV:=af hown;have HFs:=af hfs;have HNl:=af hN;clear hown hb1 hfs hN CZ;cases hz:(eM s).isSome
 ·
  have HT:Hid (gp l s=([],1)):=by
   show _=_;unfold gp;rw[hz];simp
  clear hz;go_wp2
  go_ret2
  rw[ae HT];exact⟨⟨_,rfl,aY.nil _ _⟩,ae HB1⟩
 ·
  have HZ:=af hz;clear hz;go_wp2_with fail;refine(gV a cap l n (ae Hn) m _ ((ae HR).later (ae HB1)) hl hcap (ae HS) (ae CM _ (ae HB1))).mono ?_;rintro e x2 ⟨rfl,hb2⟩;have HB2:=af (aj (ae HB1) hb2);have HV2:=af ((ae HV).later hb2 (a0a _));clear hb2 HV;cases ht:dh l
  ·
   have HT:Hid (gp l s=([],1)):=by
    show _=_;unfold gp;rw[ht];simp
   clear ht;go_wp2
   go_ret2
   rw[ae HT];exact⟨⟨_,rfl,aY.nil _ _⟩,ae HB2⟩
  ·
   have HT:=af ht;have hn8:n<=8:=by rw[←ae Hn];exact IV ht
   have hn8I:(n:Int)<=8:=by omega
   have hsh:=af (Ar ht);have hso:=af (Ey ht);have HE:=af (uo a cap n l x2 (ae Hn) ((ae HR).later (ae HB2)) hn8 (fun i hi=>by
    have hi':i<l.length:=by rw[ae Hn];exact hi
    have e:l.getD i default=l[i]:=by simp[hi']
    rw[e];obtain⟨h1,h2⟩:=ae hsh l[i] (a1P hi');exact⟨by omega,by omega⟩))
   clear ht;go_wp2_with fail;refine(ae HE).mono ?_;rintro e x3 ⟨wv,rfl,hw3,hb3⟩;obtain⟨wa,wc,rfl,hwc,_⟩:=aY.formN (ae Hn) hw3;have HB3:=af (aj (ae HB2) hb3);have HV3:=af ((ae HV2).later hb3 (a0a _));have HW3:=af (hw3.mono (ae HB2).size);clear hb3 hw3 HV2 HE;go_wp2_with fail;refine(Dw x3).mono ?_;rintro e x4 ⟨⟨b,rfl,hp4⟩,hb4⟩;have HB4:=af (aj (ae HB3) hb4);have HK4:=af hb4;have HP4:=af hp4;clear hb4 hp4;go_wp2_with fail
   go_loopw [11,32] (fun _ i wr=>∃k:Nat,k<=n/\i = .int .i64 k/\pr wr x3.heap.size b (l.take k)/\Below x3.heap.size x3 wr) (fun _ i _=>n-(intOf i).toNat)
   case atStart=>exact⟨0,a0h _,rfl,ae HP4,ae HK4⟩
   case round=>
    obtain⟨k,hk,rfl,hp,hbel⟩:=hrel;by_cases hlt:k<n
    ·
     obtain⟨g,o,rfl,hg,hcc⟩:=nE.later (jZ (ae Hn) (ae HW3)) hbel (by have:=ae Hn;omega);obtain⟨c0,c1⟩:=hcc k (by have:=ae Hn;omega);have hst:=af (fI l default k (by have:=ae Hn;omega));have hlk:Hid ((l.take k).length=k):=by show _=_;have:=ae Hn;simp;omega
     have hput:Hid (bH (l.take k) (l.getD k default)=l.take (k+1)):=by
      show _=_;have e1:=tg (ae hso) (k+1);rw[ae hst,a3r,tg (ae hso) k]at e1;rw[ae hst];simpa using e1
     have hsk:=af (show gN (l.take k)from List.Pairwise.sublist (List.take_sublist k l) (ae hso));have Hk:=af hk;clear hcc hk;generalize l.getD k default=en at *
     obtain⟨ep,et⟩:=en;have hA:Below wr.heap.size wr (wr.alloc (.cells #[.string ep,.string et] 28)):=(a0c _ _).alloc (a0a _) _;have hp1:=hp.later hA (a0a _);have hsz:=hbel.size;have HM1:=af (re b (l.take k) ep et x3.heap.size _ hp1 (ae hsk) (by have:=ae hlk;omega) (by simp;omega));have HA:=af (hbel.trans (hA.mono hbel.size));clear hA hp1 hp hbel;go_wp2_with fail;refine(ae HM1).mono ?_;rintro e x5 ⟨rfl,hp5,hb5⟩;rw[ae hput]at hp5;have HP5:=af hp5;have HB5:=af ((ae HA).trans hb5);clear hp5 hb5 HM1;go_wp2_with fail;go_roundw
     case rel=>exact⟨k+1,by have:=ae Hk;omega,by go_num,ae HP5,ae HB5⟩
     case measure=>simp[intOf];omega
    ·
     have hkn:l.take k=l:=a0s (by rw[ae Hn];omega);rw[hkn]at hp;have HP6:=af hp;have HB6:=af hbel;clear hp hbel hkn;go_wp2_with fail;clear HB4 HK4 HP4;have hfz:=af (ER (show eM s=some fs by
      have h1:=ae HFs;cases h2:eM s with
      | none=>have h3:=ae HZ;rw[h2]at h3;cases h3
      | some q=>rw[h2]at h1;exact congrArg some h1))
     have hN6:N<=6:=by rw[←ae HNl];exact(ae hfz).1
     have hNI:(N:Int)<=6:=by omega
     have hlen:=af (Gp l)
     go_loopw [13,44] (fun _ i wr=>∃k:Nat,k<=N/\i = .int .i64 k/\pr wr x3.heap.size b (dJ l (fs.take k))/\Below x3.heap.size x3 wr) (fun _ i _=>N-(intOf i).toNat)
     case atStart=>exact⟨0,a0h _,rfl,ae HP6,ae HB6⟩
     case round=>
      clear HP6 HB6;obtain⟨k,hk,rfl,hp,hbel⟩:=hrel;by_cases hlt:k<N
      ·
       obtain⟨g,o,rfl,hg,hcc⟩:=lF.later (vU (ae HNl) (ae HV3)) hbel (by have:=ae HNl;omega);obtain⟨c0,c1,c2,c3,c4,c5,c6,c7⟩:=hcc k (by have:=ae HNl;omega);have hst:=af (Dk l fs k (by have:=ae HNl;omega));have hlk:Hid ((dJ l (fs.take k)).length<=14):=by
        show _<=_;have h1:=ae hlen (fs.take k);have h2:=ae Hn;have h3:(fs.take k).length<=6:=by rw[a0t];have:=ae HNl;omega
        omega
       have hsk:=af (tf (ae hso) (fs.take k));have Hk:=af hk;clear hcc hk;generalize fs.getD k default=en at *
       have hA:Below wr.heap.size wr (wr.alloc (.cells #[.string en.n,.int .i64 en.y,.int .i64 en.mo,.int .i64 en.d,.int .i64 en.h,.int .i64 en.mi,.int .i64 en.s,.string en.t] 32)):=(a0c _ _).alloc (a0a _) _;have hp1:=hp.later hA (a0a _);have hsz:=hbel.size;have HM1:=af (re b (dJ l (fs.take k)) en.n en.t x3.heap.size _ hp1 (ae hsk) (by have:=ae hlk;omega) (by simp;omega));have HA:=af (hbel.trans (hA.mono hbel.size));clear hA hp1 hp hbel;go_wp2_with fail;refine(ae HM1).mono ?_;rintro e x5 ⟨rfl,hp5,hb5⟩;have hp6:pr x5 x3.heap.size b (dJ l (fs.take (k+1))):=by rw[ae hst];exact hp5
       have HP5:=af hp6;have HB5:=af ((ae HA).trans hb5);clear hp5 hp6 hb5 HM1;go_wp2_with fail;go_roundw
       case rel=>exact⟨k+1,by have:=ae Hk;omega,by go_num,ae HP5,ae HB5⟩
       case measure=>simp[intOf];omega
      ·
       have hkn:fs.take k=fs:=a0s (by rw[ae HNl];omega);rw[hkn]at hp;obtain⟨L,hL⟩:∃L,dJ l fs=L:=⟨_,rfl⟩;have hLs:=af (tf (ae hso) fs);have hLf:=af (zC (ae hsh) (ae hfz).2);have hLn:=af (ae hlen fs);rw[hL]at hp hLs hLf hLn;have HL:=af hL;obtain⟨M,hM⟩:∃M,L.length=M:=⟨_,rfl⟩;have hM14:M<=14:=by
        have h1:=ae hLn;have h2:=ae Hn;have h3:=ae HNl;omega
       have HMl:=af hM;have HWI:=af (Ay b x3.heap.size L wr hp (ae hLs) (by omega));have HB6:=af hbel;clear hp hbel hkn hL hM;go_wp2_with fail;refine(ae HWI).mono ?_;rintro e x7 ⟨tv,rfl,ht7,hb7⟩;obtain⟨ta,tc,rfl,htc,_⟩:=aY.formN (ae HMl) ht7;have HB7:=af ((ae HB6).trans (hb7.mono (ae HB6).size));have HT7:=af ht7;have hbw:=(ae HB6).size;clear hb7 ht7 HWI HB6;have HBE:=af ((ae HB3).trans ((ae HB7).mono (ae HB3).size));have hsz3:=(ae HB3).size;have HWE:=af (aY.later (ae HW3) (ae HB7) (a0a _));have HTE:=af (aY.mono (ae HT7) (show w.heap.size<=wr.heap.size by omega));have hout:Hid (dJ l ((eM s).getD [])=L):=by show _=_;rw[ae HFs];exact ae HL
       by_cases hbig:8<M
       ·
        have hbigI:(8:Int)<(M:Int):=by omega
        have HTk:Hid (gp l s=(l,4)):=by
         show _=_;unfold gp;rw[a0d ⟨ae HZ,ae HT⟩,ae hout,a0d (by rw[ae HMl];exact hbig)]
        go_wp2
        go_ret2
        rw[ae HTk];exact⟨⟨_,rfl,ae HWE⟩,ae HBE⟩
       ·
        have hsmI:(M:Int)<=8:=by omega
        have HTO:=af (gV ta tc L M (ae HMl) m x7 (jZ (ae HMl) (ae HT7)) (by omega) (by omega) (xQ (ae HMl) (ae hLf)) (ae CM _ (ae HBE)));go_wp2_with fail;refine(ae HTO).mono ?_;rintro e x8 ⟨rfl,hb8⟩;have HB8:=af (aj (ae HBE) hb8);have HW8:=af (aY.later (ae HWE) hb8 (a0a _));have HT8:=af (aY.later (ae HTE) hb8 (a0a _));clear hb8 HTO HWE HTE HBE;cases hto:dh L
        ·
         have HTk:Hid (gp l s=(l,3)):=by
          show _=_;unfold gp;rw[a0d ⟨ae HZ,ae HT⟩,ae hout,a0e (by rw[ae HMl];exact hbig),a0e (by rw[hto];decide)]
         clear hto;go_wp2
         go_ret2
         rw[ae HTk];exact⟨⟨_,rfl,ae HW8⟩,ae HB8⟩
        ·
         have HTk:Hid (gp l s=(L,0)):=by
          show _=_;unfold gp;rw[a0d ⟨ae HZ,ae HT⟩,ae hout,a0e (by rw[ae HMl];exact hbig),a0d hto]
         clear hto;go_wp2
         go_ret2
         rw[ae HTk];exact⟨⟨_,rfl,ae HT8⟩,ae HB8⟩
theorem Dj{l:List Fl}{fs:List En}{f:Fl}(hf:f∈l)(h:∀e∈fs,f.p≠e.n):f∈dJ l fs:=by
 induction fs generalizing l with
 | nil=>exact hf
 | cons e fs ih=>exact ih (D8 hf (h e (by simp))) (fun d hd=>h d (a1Z _ hd))
theorem vF(a b:Option Addr)(c d n:Nat)(l:List Fl)(w:World)(hn:l.length=n)(ha:nE w a l)(hb:nE w b l)(hl:n<=100) :
  Calls Tryz.prog 11 #[.slice a n c,.slice b n d] w fun e w'=>e = .returned (.bool true)/\Below w.heap.size w w':=by
 have hmix:Tryz.prog.follows .mixedOrders=true:=by kernel_rfl
 have hlI:(n:Int)<=100:=by omega
 have Hn:=af hn;have HA:=af ha;have HB:=af hb;clear hn ha hb hl;go_enter Tryz.func11,Tryz.ntmps11;go_wp2_with fail
 go_loopw [5] (fun i wr=>∃k:Nat,k<=n/\i = .int .i64 k/\Below w.heap.size w wr) (fun i _=>n-(intOf i).toNat)
 case atStart=>exact⟨0,a0h _,rfl,a0c _ _⟩
 case round=>
  obtain⟨k,hk,rfl,hbel⟩:=hrel;by_cases hlt:k<n
  ·
   obtain⟨g,o,rfl,hg,hcc⟩:=(ae HA).later hbel (by have:=ae Hn;omega);obtain⟨c0,c1⟩:=hcc k (by have:=ae Hn;omega);obtain⟨g2,o2,rfl,hg2,hcc2⟩:=(ae HB).later hbel (by have:=ae Hn;omega);obtain⟨d0,d1⟩:=hcc2 k (by have:=ae Hn;omega);have HBr:=af hbel;have HK:=af hlt;have hltI:(k:Int)<(n:Int):=by omega
   clear hcc hcc2 hbel hk hlt hg hg2;generalize l.getD k default=en at *
   go_wp2_with fail
   go_quiet (fail)
   go_wp2_with fail;go_roundw
   case rel=>exact⟨k+1,by have:=ae HK;omega,by go_num,below_drewN (ae HBr) _⟩
   case measure=>have:=ae HK;simp[intOf];omega
  ·
   have hltI:¬ (k:Int)<(n:Int):=by omega
   go_wp2;go_ret;exact⟨rfl,hbel⟩
end Go.Proofs.YtkdlcomfpffhhaaGreatDoor
