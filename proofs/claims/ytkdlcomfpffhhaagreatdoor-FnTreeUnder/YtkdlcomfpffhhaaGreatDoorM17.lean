/- Of what the proof is made: 2 texts, one behind the other. -/
import Derived.Test.YtkdlcomfpffhhaaGreatDoorM3
import Derived.Test.YtkdlcomfpffhhaaGreatDoorM8
set_option linter.unusedSimpArgs false
set_option linter.unusedVariables false
set_option maxHeartbeats 4000000
namespace Go.Proofs.YtkdlcomfpffhhaaGreatDoor
open Go.RowKit
theorem JB{Q:List (List UInt8)}{x t:List UInt8}(h:Q++[x]=cF [] t):cF [] (t++[47])=(Q++[x])++[[]]:=by
 rw[kY,a0d rfl,h]
theorem Lx{Q:List (List UInt8)}{x t:List UInt8}{b:UInt8}(h:Q++[x]=cF [] t)(hb:¬ b=47):cF [] (t++[b])=Q++[x++[b]]:=by
 rw[kY,a0e hb,←h];simp
theorem uu(s:ByteArray)(f k:Nat):(s.extract f k).data.toList=(s.data.toList.take k).drop f:=by
 rw[Lib.extract_data];simp[List.drop_take]
theorem JH(s:ByteArray)(f k:Nat)(hf:f<=k)(hk:k<s.size):(s.extract f (k+1)).data.toList=(s.extract f k).data.toList++[s[k]]:=by
 have hk':k<s.data.toList.length:=by simpa using hk
 rw[uu,uu,a1c hk',List.drop_append_of_le_length (by simp;omega)];rfl
theorem rN(s:ByteArray)(k:Nat)(hk:k<s.size):s.data.toList.take (k+1)=s.data.toList.take k++[s[k]]:=by
 have hk':k<s.data.toList.length:=by simpa using hk
 rw[a1c hk'];rfl
theorem JG(s:ByteArray)(k:Nat):(s.extract k k).data.toList=[]:=by
 rw[uu];simp
theorem IF{Q:List (List UInt8)}{x:List UInt8}(s:ByteArray)(k:Nat)(hk:k<s.size)(hb:s[k].toNat=47)(h:Q++[x]=cF [] (s.data.toList.take k)):cF [] (s.data.toList.take (k+1))=(Q++[x])++[[]]:=by
 have e:s[k]=47:=UInt8.toNat_inj.1 hb;rw[rN s k hk,e];exact JB h
theorem KS{Q:List (List UInt8)}(s:ByteArray)(f k:Nat)(hf:f<=k)(hk:k<s.size)(hb:¬ s[k].toNat=47)(h:Q++[(s.extract f k).data.toList]=cF [] (s.data.toList.take k)):cF [] (s.data.toList.take (k+1))=Q++[(s.extract f (k+1)).data.toList]:=by
 have e:¬ s[k]=47:=fun e=>hb (by rw[e];rfl);rw[rN s k hk,JH s f k hf hk];exact Lx h e
set_option maxRecDepth 100000 in
theorem Di(s:ByteArray)(w:World)(hs:s.size<=1048576) :
  Calls Tryz.prog 57 #[.string s,.int .u8 47,.int .i64 ((s.size:Int)+1)] w fun e w'=>∃v P,e = .returned v/\cP w' w.heap.size v P/\P.map (·.data.toList)=lG s.data.toList/\Below w.heap.size w w':=by
 obtain⟨i0,hi,hz0,hz1,hz2⟩:=a0z Tryz.infoStr;have hsI:(s.size:Int)<=1048576:=by omega
 have HSZ:=af hs;have hq0:=af (cP.lit w w.heap.size (a0a _));have hb0:Hid (Below w.heap.size w (w.alloc (.cells #[] 9))):=(a0c _ _).alloc (a0a _) _;clear hs;go_enter Tryz.func57,Tryz.ntmps57;go_wp2_with fail
 go_loopw [7,8,9] (fun v fr i wr=>∃(k f:Nat) (P:List ByteArray),k<=s.size/\f<=k/\i = .int .i64 k/\fr = .int .i64 f/\cP wr w.heap.size v P/\P.length<=k/\P.map (·.data.toList)++[(s.extract f k).data.toList]=cF [] (s.data.toList.take k)/\Below w.heap.size w wr) (fun _ _ i _=>s.size-(intOf i).toNat)
 case atStart=>exact⟨0,0,[],a0h _,a0a _,rfl,rfl,ae hq0,a0a _,by simp[cF],ae hb0⟩
 case round=>
  obtain⟨k,f,P,hk,hf,rfl,rfl,hq,hPl,hcut,hbel⟩:=hrel;obtain⟨m,hm⟩:∃m,P.length=m:=⟨_,rfl⟩;rw[hm]at hPl;have hmI:(m:Int)<=(k:Int):=by omega
  have hkI:(k:Int)<=(s.size:Int):=by omega
  have hfI:(f:Int)<=(k:Int):=by omega
  have HM:=af hm;obtain⟨va,vc,rfl⟩:=hq.formN hm;have hqo:=af (hq.own hm);have hbs:=hbel.size;have HBel:=af hbel;have HCut:=af hcut;have HF:=af hf;have HK:=af hk;have bd:Hid (m+1<=maxLen/\(m+1)*16<=140737488355328):=by have:=ae HSZ;show _/\_;unfold maxLen;omega
  have HPl:=af hPl;clear hq hbel hm hcut hPl;by_cases hlt:k<s.size
  ·
   have hltI:(k:Int)<(s.size:Int):=by omega
   have hmS:(m:Int)<(s.size:Int)+1:=by omega
   have HLt:=af hlt;by_cases hb:s[k].toNat=47
   ·
    have HE:=af (IF s k hlt hb (ae HCut));go_wp2_with (at_builtin;refine a0H _ rfl _ _ 47 rfl w.heap.size 9 i0 (.string ByteArray.empty) 1 16 Tryz.underlying47 hi hz0 hz1 hz2 rfl (by decide) _ _ _ rfl (a0n (ae hqo) _) ⟨wr.heap.size,0,none⟩ 1 1 [.string (s.extract f k)] rfl rfl (fO _ _ rfl _ _) (Bz _) (ae bd).1 (ae bd).2 (aB hbs _) ?_;intro v' x2 hown hgrow hnil;clear hnil);have hb2:=aJ (v:=.slice va m vc) hgrow (ae hqo) (a0a _) hbs (ae HBel);have hq2:=af (iU (b:=s.extract f k) (ae HM) hown);have HB2:=af hb2;clear hown hgrow hb2;go_wp2;go_roundw
    case rel=>
     refine⟨k+1,k+1,P++[s.extract f k],by have:=ae HLt;omega,a0a _,by go_num,by go_num,ae hq2,by have:=ae HM;have:=ae HPl;simp;omega,?_,ae HB2⟩;rw[ae HE,JG];simp
    case measure=>have:=ae HLt;simp[intOf];omega
   ·
    have hbI:¬ (s[k].toNat:Int)=47:=by omega
    have HE:=af (KS s f k (ae HF) hlt hb (ae HCut));go_wp2;go_roundw
    case rel=>
     refine⟨k+1,f,P,by have:=ae HLt;omega,by have:=ae HF;omega,by go_num,rfl,?_,by have:=ae HM;have:=ae HPl;omega,?_,ae HBel⟩
     · have:=ae hqo;rw[←ae HM]at this ⊢;exact this
     · rw[ae HE]
    case measure=>have:=ae HLt;simp[intOf];omega
  ·
   obtain rfl:k=s.size:=by have:=ae HK;omega
   go_wp2_with (at_builtin;refine a0H _ rfl _ _ 47 rfl w.heap.size 9 i0 (.string ByteArray.empty) 1 16 Tryz.underlying47 hi hz0 hz1 hz2 rfl (by decide) _ _ _ rfl (a0n (ae hqo) _) ⟨wr.heap.size,0,none⟩ 1 1 [.string (s.extract f s.size)] rfl rfl (fO _ _ rfl _ _) (Bz _) (ae bd).1 (ae bd).2 (aB hbs _) ?_;intro v' x2 hown hgrow hnil;clear hnil);have hb2:=aJ (v:=.slice va m vc) hgrow (ae hqo) (a0a _) hbs (ae HBel);have hq2:=af (iU (b:=s.extract f s.size) (ae HM) hown);have HB2:=af hb2;clear hown hgrow hb2;go_wp2;go_ret;refine⟨_,_,rfl,ae hq2,?_,ae HB2⟩;have hc:=ae HCut;have hl:s.data.toList.take s.size=s.data.toList:=a0s (by simp);rw[hl]at hc;rw[a0N];exact hc
theorem Bv(b:UInt8):okB b=true<->(97<=b.toNat/\b.toNat<=122)∨(48<=b.toNat/\b.toNat<=57)∨b.toNat=46∨b.toNat=45∨b.toNat=95:=by
 simp[okB]
theorem lr{p:ByteArray}{m:Nat}(hm:m<p.size)(h:okB p[m]=false):dS p.data.toList=false:=by
 have:p.data.toList.all okB=false:=by
  rw[a2P];refine⟨p[m],?_,by simp[h]⟩;have e:p[m]=p.data.toList[m]'(by simpa using hm):=rfl;rw[e];exact a1P _
 simp[dS,this]
theorem ou{p:ByteArray}(h:inB (p.size:Int) 1 10=false):dS p.data.toList=false:=by
 have hb:=eB.1 h;have e:p.data.toList.length=p.size:=by simp
 have:(decide (1<=p.data.toList.length)&&decide (p.data.toList.length<=10))=false:=by rw[e];simp;omega
 simp only[dS];rw[←Bool.and_assoc (decide _),this];simp
theorem BI{p:ByteArray}(h:∀j (hj:j<p.size),okB p[j]=true)(hs:inB (p.size:Int) 1 10=true)(h1:(p.toList == [46])=false)(h2:(p.toList == [46,46])=false):dS p.data.toList=true:=by
 obtain⟨b0,b1⟩:=aD.1 hs;have e:p.data.toList.length=p.size:=by simp
 have a:p.data.toList.all okB=true:=by
  rw[a0R];intro x hx;obtain⟨j,hj,rfl⟩:=a1X hx;exact h j (by rw[←e];exact hj)
 rw[a06]at h1 h2;simp only[dS,a,h1,h2,e];simp;omega
theorem xE{p:ByteArray}(h:(p.toList == [46])=true):dS p.data.toList=false:=by
 rw[a06]at h;rw[a3o.1 h];decide
theorem tw{p:ByteArray}(h:(p.toList == [46,46])=true):dS p.data.toList=false:=by
 rw[a06]at h;rw[a3o.1 h];decide
theorem Bt{s:ByteArray}{l:List ByteArray}(hl:l.map (·.data.toList)=lG s.data.toList){j:Nat}(hj:j<l.length)(h:dS (l.getD j ByteArray.empty).data.toList=false):gn s.data.toList=false:=by
 have:(lG s.data.toList).all dS=false:=by
  rw[←hl,a2P];refine⟨(l.getD j ByteArray.empty).data.toList,?_,by rw[h];simp⟩;rw[a2I];exact⟨l.getD j ByteArray.empty,by simp[List.getD,hj],rfl⟩
 simp[gn,this]
theorem xg{s:ByteArray}{l:List ByteArray}(hl:l.map (·.data.toList)=lG s.data.toList)(h:∀j,j<l.length->dS (l.getD j ByteArray.empty).data.toList=true):gn s.data.toList=decide (l.length<=4):=by
 have e:(lG s.data.toList).length=l.length:=by rw[←hl];simp
 have:(lG s.data.toList).all dS=true:=by
  rw[←hl,a0R];intro x hx;rw[a2I]at hx;obtain⟨y,hy,rfl⟩:=hx;obtain⟨j,hj,rfl⟩:=a1X hy;have:=h j hj;simpa[List.getD,hj]using this
 simp[gn,this,e]
theorem kZ:∀(l cur x:List UInt8),x∈cF cur l->x.length<=cur.length+l.length
 | [],cur,x,h=>by simp[cF]at h;subst h;simp
 | b :: l,cur,x,h=>by
  unfold cF at h
  split at h
  ·
   rcases a1j.1 h with rfl|h
   · simp
   · have:=kZ l [] x h;simp at this ⊢;omega
  · have:=kZ l (cur++[b]) x h;simp at this ⊢;omega
set_option maxRecDepth 100000 in
theorem rK(s:ByteArray)(w:World)(hs:s.size<=1048576) :
  Calls Tryz.prog 27 #[.string s] w fun e w'=>e = .returned (.bool (gn s.data.toList))/\Below w.heap.size w w':=by
 have HSZ:=af hs;have hsI:(s.size:Int)<=1048576:=by omega
 clear hs;go_enter Tryz.func27,Tryz.ntmps27;go_wp2_with fail;refine(Di s _ (ae HSZ)).mono ?_;rintro e x1 ⟨v,l,rfl,hq,hcut,hb1⟩;obtain⟨n,hn⟩:∃n,l.length=n:=⟨_,rfl⟩;obtain⟨va,vc,rfl⟩:=hq.formN hn;have hn0:0<n:=by
  have e:=congrArg List.length hcut;have:=AQ s.data.toList [];cases h:cF [] s.data.toList with
  | nil=>exact absurd h this
  | cons a t=>
   simp only[lG,h,a0S,a0B]at e;omega
 have hnS:n<=s.size+1:=by
  have e:=congrArg List.length hcut;have:=mC s.data.toList [];simp only[a0S]at e;have h2:s.data.toList.length=s.size:=by simp
  unfold lG at e;omega
 have hnI:(n:Int)<=1048577:=by omega
 obtain⟨g,rfl,hg,hcl⟩:=hq.at hn hn0;have PL:Hid (∀k,k<n->(l.getD k ByteArray.empty).size<=1048576):=by
  intro k hk;have hmem:(l.getD k ByteArray.empty).data.toList∈lG s.data.toList:=by
   rw[←hcut,a2I];exact⟨l.getD k ByteArray.empty,by simp[List.getD,hn,hk],rfl⟩
  have:=kZ s.data.toList [] _ hmem;have e1:(l.getD k ByteArray.empty).data.toList.length=(l.getD k ByteArray.empty).size:=by simp
  have e2:s.data.toList.length=s.size:=by simp
  have:=ae HSZ;simp only[a1i]at *
  omega
 have HC:=af hcl;have HB:=af hb1;have HNO:=af (fun j (hj:j<l.length)=>@Bt s l hcut j hj);have HYES:=af (@xg s l hcut);rw[hn]at HNO HYES;clear hq hcut hcl hb1 hn0 hnS HSZ hsI;go_wp2_with fail
 go_loop [4,5,6] (fun i _ _=>∃k:Nat,k<=n/\i = .int .i64 k/\∀j,j<k->dS (l.getD j ByteArray.empty).data.toList=true) (fun i _ _=>n-(intOf i).toNat)
 case atStart=>exact⟨0,a0h _,rfl,fun j hj=>absurd hj (by omega)⟩
 case round=>
  obtain⟨k,hk,rfl,hall⟩:=hrel;have HALL:=af hall;have HK:=af hk;clear hall;by_cases hkn:k<n
  ·
   have hkI:(k:Int)<(n:Int):=by omega
   have hc:=ae HC k hkn;have HNOk:=af (ae HNO k hkn);have HNX:Hid (dS (l.getD k ByteArray.empty).data.toList=true->∀j,j<k+1->dS (l.getD j ByteArray.empty).data.toList=true):=by
    intro e j hj;by_cases hjk:j=k
    · rw[hjk];exact e
    · exact ae HALL j (by omega)
   have HKN:=af hkn;clear hk HALL;have HPS:=af (ae PL k hkn);generalize l.getD k ByteArray.empty=p at *
   have hpS:(p.size:Int)<=9223372036854775807:=by
    have:=ae HPS;omega
   go_wp2_with fail
   go_loop [6] (fun q=>∃m:Nat,m<=p.size/\q = .int .i64 m/\∀j (hj:j<p.size),j<m->okB p[j]=true) (fun q=>p.size-(intOf q).toNat)
   case atStart=>exact⟨0,a0h _,rfl,fun j _ hj=>absurd hj (by omega)⟩
   case round=>
    obtain⟨m,hm,rfl,hoks⟩:=hrel;have HOKS:=af hoks;have HMM:=af hm;clear hoks;by_cases hml:m<p.size
    ·
     have hmI:(m:Int)<(p.size:Int):=by omega
     have HML:=af hml;have HMX:Hid (okB p[m]=true->∀j (hj:j<p.size),j<m+1->okB p[j]=true):=by
      intro e j hj hjm;by_cases hjk:j=m
      · subst hjk;exact e
      · exact ae HOKS j hj (by omega)
     have hlo:(0:Int)<=(p[m].toNat:Int):=by omega
     have hhi:(p[m].toNat:Int)<256:=by have:=p[m].toNat_lt;omega
     clear hm HOKS HMM;cases hok:okB p[m]
     ·
      have hno:¬ ((97<=p[m].toNat/\p[m].toNat<=122)∨(48<=p[m].toNat/\p[m].toNat<=57)∨p[m].toNat=46∨p[m].toNat=45∨p[m].toNat=95):=fun e=>Bool.noConfusion (hok.symm.trans ((Bv _).2 e));have e46:¬ (p[m].toNat:Int)=46:=by omega
      have e45:¬ (p[m].toNat:Int)=45:=by omega
      have e95:¬ (p[m].toNat:Int)=95:=by omega
      by_cases a1:(97:Int)<=(p[m].toNat:Int)
      ·
       have a2:¬ (p[m].toNat:Int)<=122:=by omega
       have a3:(48:Int)<=(p[m].toNat:Int):=by omega
       clear hno;have HP:=af (ae HNOk (lr (ae HML) hok));go_wp2;all_goals first
        | (go_ret;exact⟨ak (ae HP).symm,ae HB⟩)
        | (exfalso;rename_i hx;first|omega|(simp at hx;omega))
        | (exfalso;rename_i hx _ _;simp at hx;omega)
      ·
       by_cases a3:(48:Int)<=(p[m].toNat:Int)
       ·
        have a4:¬ (p[m].toNat:Int)<=57:=by omega
        clear hno;have HP:=af (ae HNOk (lr (ae HML) hok));go_wp2;all_goals first
         | (go_ret;exact⟨ak (ae HP).symm,ae HB⟩)
         | (exfalso;rename_i hx;first|omega|(simp at hx;omega))
         | (exfalso;rename_i hx _ _;simp at hx;omega)
       ·
        skip
        clear hno;have HP:=af (ae HNOk (lr (ae HML) hok));go_wp2;all_goals first
         | (go_ret;exact⟨ak (ae HP).symm,ae HB⟩)
         | (exfalso;rename_i hx;first|omega|(simp at hx;omega))
         | (exfalso;rename_i hx _ _;simp at hx;omega)
     ·
      have hyes:=(Bv p[m]).1 hok;rcases hyes with⟨a1,a2⟩|⟨a1,a2⟩|a1|a1|a1
      ·
       have b1:(97:Int)<=(p[m].toNat:Int):=by omega
       have b2:(p[m].toNat:Int)<=122:=by omega
       clear a1 a2;go_wp2;all_goals first
        | (
          go_round
          case rel=>exact⟨m+1,by have:=ae HML;omega,by go_num,ae HMX hok⟩
          case measure=>have:=ae HML;simp[intOf];omega)
        | (exfalso;rename_i hx;first|omega|(simp at hx;omega))
        | (exfalso;rename_i hx _ _;simp at hx;omega)
      ·
       have b1:¬ (97:Int)<=(p[m].toNat:Int):=by omega
       have b2:(48:Int)<=(p[m].toNat:Int):=by omega
       have b3:(p[m].toNat:Int)<=57:=by omega
       clear a1 a2;go_wp2;all_goals first
        | (
          go_round
          case rel=>exact⟨m+1,by have:=ae HML;omega,by go_num,ae HMX hok⟩
          case measure=>have:=ae HML;simp[intOf];omega)
        | (exfalso;rename_i hx;first|omega|(simp at hx;omega))
        | (exfalso;rename_i hx _ _;simp at hx;omega)
      ·
       have b1:(p[m].toNat:Int)=46:=by omega
       clear a1;go_wp2;all_goals first
        | (
          go_round
          case rel=>exact⟨m+1,by have:=ae HML;omega,by go_num,ae HMX hok⟩
          case measure=>have:=ae HML;simp[intOf];omega)
        | (exfalso;rename_i hx;first|omega|(simp at hx;omega))
        | (exfalso;rename_i hx _ _;simp at hx;omega)
      ·
       have b1:(p[m].toNat:Int)=45:=by omega
       clear a1;go_wp2;all_goals first
        | (
          go_round
          case rel=>exact⟨m+1,by have:=ae HML;omega,by go_num,ae HMX hok⟩
          case measure=>have:=ae HML;simp[intOf];omega)
        | (exfalso;rename_i hx;first|omega|(simp at hx;omega))
        | (exfalso;rename_i hx _ _;simp at hx;omega)
      ·
       have b1:(p[m].toNat:Int)=95:=by omega
       clear a1;go_wp2;all_goals first
        | (
          go_round
          case rel=>exact⟨m+1,by have:=ae HML;omega,by go_num,ae HMX hok⟩
          case measure=>have:=ae HML;simp[intOf];omega)
        | (exfalso;rename_i hx;first|omega|(simp at hx;omega))
        | (exfalso;rename_i hx _ _;simp at hx;omega)
    ·
     obtain rfl:m=p.size:=by have:=ae HMM;omega
     have HOK2:Hid (∀j (hj:j<p.size),okB p[j]=true):=fun j hj=>ae HOKS j hj hj;clear HOKS hml hm;cases hz:inB (p.size:Int) 1 10
     · have HP:=af (ae HNOk (ou hz));go_wp2_with (go_at_call 58;refine(mY _ _ _ _).mono ?_;rintro e w9 ⟨rfl,hw9⟩;rw[hw9];clear hw9;rw[hz]);go_ret;exact⟨ak (ae HP).symm,ae HB⟩
     ·
      cases d1:(p.toList == [46])
      ·
       cases d2:(p.toList == [46,46])
       ·
        have HP:=af (ae HNX (BI (ae HOK2) hz d1 d2));go_wp2_with (go_at_call 58;refine(mY _ _ _ _).mono ?_;rintro e w9 ⟨rfl,hw9⟩;rw[hw9];clear hw9;rw[hz])
        go_round
        case rel=>exact⟨k+1,by have:=ae HKN;omega,by go_num,ae HP⟩
        case measure=>have:=ae HKN;simp[intOf];omega
       ·
        have HP:=af (ae HNOk (tw d2));have d2':p.toList=[46,46]:=by simpa using d2
        go_wp2_with (go_at_call 58;refine(mY _ _ _ _).mono ?_;rintro e w9 ⟨rfl,hw9⟩;rw[hw9];clear hw9;rw[hz]);go_ret;exact⟨ak (ae HP).symm,ae HB⟩
      ·
       have HP:=af (ae HNOk (xE d1));have d1':p.toList=[46]:=by simpa using d1
       go_wp2_with (go_at_call 58;refine(mY _ _ _ _).mono ?_;rintro e w9 ⟨rfl,hw9⟩;rw[hw9];clear hw9;rw[hz]);go_ret;exact⟨ak (ae HP).symm,ae HB⟩
  ·
   obtain rfl:k=n:=by omega
   have HY:=af (ae HYES (ae HALL));clear HALL HYES HNO HC;by_cases h4:k<=4
   ·
    have h4I:(k:Int)<=4:=by omega
    go_wp2;go_ret;exact⟨ak (by rw[ae HY];simp[h4]),ae HB⟩
   ·
    have h4I:¬ (k:Int)<=4:=by omega
    go_wp2;go_ret;exact⟨ak (by rw[ae HY];simp[h4]),ae HB⟩
end Go.Proofs.YtkdlcomfpffhhaaGreatDoor
