/- Of what the proof is made: 2 texts, one behind the other. -/
import Derived.Test.YtkdlcomfpffhhaaGreatDoorM3
import Derived.Test.YtkdlcomfpffhhaaGreatDoorM8
set_option maxRecDepth 100000
set_option linter.unusedSimpArgs false
set_option linter.unusedVariables false
set_option maxHeartbeats 4000000
namespace Go.Proofs.YtkdlcomfpffhhaaGreatDoor
open Go.Proofs.Tryz
open Go.RowKit
variable {Q:List (List UInt8)}{p:ByteArray}{x:List UInt8}
theorem KF{t:List UInt8}(h:Q++[x]=cM [] t):cM [] (t++[47])=(Q++[x])++[[]]:=by
 rw[lw,a0e rfl,h]
theorem M0{t:List UInt8}{b:UInt8}(h:Q++[x]=cM [] t)(hb:¬ b=47):cM [] (t++[b])=Q++[x++[b]]:=by
 rw[lw,a0d hb,←h];simp
theorem vM(s:ByteArray)(f k:Nat):(s.extract f k).data.toList=(s.data.toList.take k).drop f:=by
 rw[Lib.extract_data];simp[a3R]
theorem KR(s:ByteArray)(f k:Nat)(c:f<=k)(b:k<s.size):(s.extract f (k+1)).data.toList=(s.extract f k).data.toList++[s[k]]:=by
 have a:k<s.data.toList.length:=by simpa using b
 rw[vM,vM,a1i a,List.drop_append_of_le_length (by simp;omega)];rfl
theorem td(s:ByteArray)(k:Nat)(b:k<s.size):s.data.toList.take (k+1)=s.data.toList.take k++[s[k]]:=by
 have a:k<s.data.toList.length:=by simpa using b
 rw[a1i a];rfl
theorem KQ(s:ByteArray)(k:Nat):(s.extract k k).data.toList=[]:=by
 rw[vM];simp
theorem JQ(s:ByteArray)(k:Nat)(a:k<s.size)(hb:s[k].toNat=47)(h:Q++[x]=cM [] (s.data.toList.take k)):cM [] (s.data.toList.take (k+1))=(Q++[x])++[[]]:=by
 have e:s[k]=47:=UInt8.toNat_inj.1 hb;rw[td s k a,e];exact KF h
theorem Me(s:ByteArray)(f k:Nat)(b:f<=k)(a:k<s.size)(hb:¬ s[k].toNat=47)(h:Q++[(s.extract f k).data.toList]=cM [] (s.data.toList.take k)):cM [] (s.data.toList.take (k+1))=Q++[(s.extract f (k+1)).data.toList]:=by
 have e:¬ s[k]=47:=fun e=>hb (by rw[e];rfl);rw[td s k a,KR s f k b a];exact M0 h e
theorem EC(s:ByteArray)(w:World)(M:s.size<=1048576) :
  Calls prog 57 #[.string s,.int .u8 47,.int .i64 ((s.size:Int)+1)] w fun e w'=>∃v P,e = .returned v/\cS w' w.heap.size v P/\P.map (·.data.toList)=lV s.data.toList/\Below w.heap.size w w':=by
 obtain⟨i0,K,A,B,C⟩:=a0s Tryz.infoStr;have X:(s.size:Int)<=1048576:=by omega
 have F:=af M;have H:=af (cS.lit w w.heap.size (a0a _));have G:Hid (Below w.heap.size w (w.alloc (.cells #[] 9))):=(a0c _ _).alloc (a0a _) _;clear M;go_enter func57,ntmps57;go_wp2_with fail
 go_loopw [7,8,9] (fun v fr i wr=>∃(k f:Nat) (P:List ByteArray),k<=s.size/\f<=k/\i = .int .i64 k/\fr = .int .i64 f/\cS wr w.heap.size v P/\P.length<=k/\P.map (·.data.toList)++[(s.extract f k).data.toList]=cM [] (s.data.toList.take k)/\Below w.heap.size w wr) (fun _ _ i _=>s.size-(intOf i).toNat)
 case atStart=>exact⟨0,0,[],a0h _,a0a _,rfl,rfl,ae H,a0a _,by simp[cM],ae G⟩
 case round=>
  obtain⟨k,f,P,S,Q,rfl,rfl,hq,t,q,j⟩:=hrel;obtain⟨m,hm⟩:∃m,P.length=m:=⟨_,rfl⟩;rw[hm]at t;have V:(m:Int)<=(k:Int):=by omega
  have T:(k:Int)<=(s.size:Int):=by omega
  have R:(f:Int)<=(k:Int):=by omega
  have y:=af hm;obtain⟨va,vc,rfl⟩:=hq.formN hm;have n:=af (hq.own hm);have p:=j.size;have d:=af j;have g:=af q;have I:=af Q;have N:=af S;have D:Hid (m+1<=maxLen/\(m+1)*16<=140737488355328):=by have:=ae F;show _/\_;unfold maxLen;omega
  have z:=af t;clear hq j hm q t;by_cases u:k<s.size
  .
   have L:(k:Int)<(s.size:Int):=by omega
   have W:(m:Int)<(s.size:Int)+1:=by omega
   have o:=af u;by_cases hb:s[k].toNat=47
   .
    have E:=af (JQ s k u hb (ae g));go_wp2_with (at_builtin;refine a0v _ rfl _ _ 47 rfl w.heap.size 9 i0 (.string ByteArray.empty) 1 16 underlying47 K A B C rfl (by decide) _ _ _ rfl (a0k (ae n) _) ⟨wr.heap.size,0,none⟩ 1 1 [.string (s.extract f k)] rfl rfl (bo _ _ rfl _ _) (Dn _) (ae D).1 (ae D).2 (av p _) ?_;intro v' x2 c a l;clear l);have h:=aI (v:=.slice va m vc) a (ae n) (a0a _) p (ae d);have x:=af (jv (b:=s.extract f k) (ae y) c);have r:=af h;clear c a h;go_wp2;go_roundw
    case rel=>
     refine⟨k+1,k+1,P++[s.extract f k],by have:=ae o;omega,a0a _,by go_num,by go_num,ae x,by have:=ae y;have:=ae z;simp;omega,?_,ae r⟩;rw[ae E,KQ];simp
    case measure=>have:=ae o;simp[intOf];omega
   .
    have O:¬ (s[k].toNat:Int)=47:=by omega
    have E:=af (Me s f k (ae I) u hb (ae g));go_wp2;go_roundw
    case rel=>
     refine⟨k+1,f,P,by have:=ae o;omega,by have:=ae I;omega,by go_num,rfl,?_,by have:=ae y;have:=ae z;omega,?_,ae d⟩
     . have:=ae n;rw[←ae y]at this ⊢;exact this
     . rw[ae E]
    case measure=>have:=ae o;simp[intOf];omega
  .
   obtain rfl:k=s.size:=by have:=ae N;omega
   go_wp2_with (at_builtin;refine a0v _ rfl _ _ 47 rfl w.heap.size 9 i0 (.string ByteArray.empty) 1 16 underlying47 K A B C rfl (by decide) _ _ _ rfl (a0k (ae n) _) ⟨wr.heap.size,0,none⟩ 1 1 [.string (s.extract f s.size)] rfl rfl (bo _ _ rfl _ _) (Dn _) (ae D).1 (ae D).2 (av p _) ?_;intro v' x2 c a l;clear l);have h:=aI (v:=.slice va m vc) a (ae n) (a0a _) p (ae d);have x:=af (jv (b:=s.extract f s.size) (ae y) c);have r:=af h;clear c a h;go_wp2;go_ret;refine⟨_,_,rfl,ae x,?_,ae r⟩;have J:=ae g;have U:s.data.toList.take s.size=s.data.toList:=a0D (by simp);rw[U]at J;rw[a1d];exact J
theorem Dk(b:UInt8):okB b=true<->(97<=b.toNat/\b.toNat<=122)∨(48<=b.toNat/\b.toNat<=57)∨b.toNat=46∨b.toNat=45∨b.toNat=95:=by
 simp[okB]
theorem lN{p:ByteArray}{m:Nat}(a:m<p.size)(h:okB p[m]=false):eF p.data.toList=false:=by
 have:p.data.toList.all okB=false:=by
  rw[a2r];refine⟨p[m],?_,by simp[h]⟩;have e:p[m]=p.data.toList[m]'(by simpa using a):=rfl;rw[e];exact a1A _
 simp[eF,this]
theorem pe(h:inB (p.size:Int) 1 10=false):eF p.data.toList=false:=by
 have hb:=dK.1 h;have e:p.data.toList.length=p.size:=by simp
 have:(decide (1<=p.data.toList.length)&&decide (p.data.toList.length<=10))=false:=by rw[e];simp;omega
 simp only[eF];rw[←Bool.and_assoc (decide _),this];simp
theorem Dt(h:∀j (c:j<p.size),okB p[j]=true)(d:inB (p.size:Int) 1 10=true)(b:(p.toList == [46])=false)(h2:(p.toList == [46,46])=false):eF p.data.toList=true:=by
 obtain⟨g,i⟩:=aG.1 d;have e:p.data.toList.length=p.size:=by simp
 have a:p.data.toList.all okB=true:=by
  rw[a06];intro x f;obtain⟨j,c,rfl⟩:=a2b f;exact h j (by rw[←e];exact c)
 rw[a08]at b h2;simp only[eF,a,b,h2,e];simp;omega
theorem yW(h:(p.toList == [46])=true):eF p.data.toList=false:=by
 rw[a08]at h;rw[a2U.1 h];decide
theorem uN(h:(p.toList == [46,46])=true):eF p.data.toList=false:=by
 rw[a08]at h;rw[a2U.1 h];decide
theorem Di{s:ByteArray}{l:List ByteArray}(b:l.map (·.data.toList)=lV s.data.toList){j:Nat}(a:j<l.length)(h:eF (l.getD j ByteArray.empty).data.toList=false):fG s.data.toList=false:=by
 have:(lV s.data.toList).all eF=false:=by
  rw[←b,a2r];refine⟨(l.getD j ByteArray.empty).data.toList,?_,by rw[h];simp⟩;rw[a2S];exact⟨l.getD j ByteArray.empty,by simp[List.getD,a],rfl⟩
 simp[fG,this]
theorem yD{s:ByteArray}{l:List ByteArray}(b:l.map (·.data.toList)=lV s.data.toList)(h:∀j,j<l.length->eF (l.getD j ByteArray.empty).data.toList=true):fG s.data.toList=decide (l.length<=4):=by
 have e:(lV s.data.toList).length=l.length:=by rw[←b];simp
 have:(lV s.data.toList).all eF=true:=by
  rw[←b,a06];intro x c;rw[a2S]at c;obtain⟨y,d,rfl⟩:=c;obtain⟨j,a,rfl⟩:=a2b d;have:=h j a;simpa[List.getD,a]using this
 simp[fG,this,e]
theorem lx:∀(l cur x:List UInt8),x∈cM cur l->x.length<=cur.length+l.length
 | [],cur,x,h=>by simp[cM]at h;subst h;simp
 | b :: l,cur,x,h=>by
  unfold cM at h
  split at h
  .
   rcases a1h.1 h with rfl|h
   . simp
   . have:=lx l [] x h;simp at this ⊢;omega
  . have:=lx l (cur++[b]) x h;simp at this ⊢;omega
theorem li(s:ByteArray)(w:World)(hs:s.size<=1048576) :
  CD 27 #[.string s] w (.bool (fG s.data.toList)):=by
 have F:=af hs;have ab:(s.size:Int)<=1048576:=by omega
 clear hs;go_enter func27,ntmps27;go_wp2_with fail;refine(EC s _ (ae F)).mono ?_;rintro e x1 ⟨v,l,rfl,hq,o,M⟩;obtain⟨n,hn⟩:∃n,l.length=n:=⟨_,rfl⟩;obtain⟨va,vc,rfl⟩:=hq.formN hn;have Q:0<n:=by
  have e:=congrArg List.length o;have:=Cv s.data.toList [];cases h:cM [] s.data.toList with
  | nil=>exact absurd h this
  | cons a t=>
   simp only[lV,h,a1l,a0J]at e;omega
 have aa:n<=s.size+1:=by
  have e:=congrArg List.length o;have:=nz s.data.toList [];simp only[a1l]at e;have h2:s.data.toList.length=s.size:=by simp
  unfold lV at e;omega
 have a6:(n:Int)<=1048577:=by omega
 obtain⟨g,rfl,hg,N⟩:=hq.at hn Q;have PL:Hid (∀k,k<n->(l.getD k ByteArray.empty).size<=1048576):=by
  intro k T;have O:(l.getD k ByteArray.empty).data.toList∈lV s.data.toList:=by
   rw[←o,a2S];exact⟨l.getD k ByteArray.empty,by simp[List.getD,hn,T],rfl⟩
  have:=lx s.data.toList [] _ O;have e1:(l.getD k ByteArray.empty).data.toList.length=(l.getD k ByteArray.empty).size:=by simp
  have e2:s.data.toList.length=s.size:=by simp
  have:=ae F;simp only[a04]at *
  omega
 have HC:=af N;have B:=af M;have E:=af (fun j (x:j<l.length)=>@Di s l o j x);have z:=af (@yD s l o);rw[hn]at E z;clear hq o N M Q aa F ab;go_wp2_with fail
 go_loop [4,5,6] (fun i _ _=>∃k:Nat,k<=n/\i = .int .i64 k/\∀j,j<k->eF (l.getD j ByteArray.empty).data.toList=true) (fun i _ _=>n-(intOf i).toNat)
 case atStart=>exact⟨0,a0h _,rfl,fun j x=>absurd x (by omega)⟩
 case round=>
  obtain⟨k,T,rfl,C⟩:=hrel;have r:=af C;have HK:=af T;clear C;by_cases A:k<n
  .
   have ao:(k:Int)<(n:Int):=by omega
   have hc:=ae HC k A;have f:=af (ae E k A);have U:Hid (eF (l.getD k ByteArray.empty).data.toList=true->∀j,j<k+1->eF (l.getD j ByteArray.empty).data.toList=true):=by
    intro e j x;by_cases G:j=k
    . rw[G];exact e
    . exact ae r j (by omega)
   have J:=af A;clear T r;have V:=af (ae PL k A);generalize l.getD k ByteArray.empty=p at *
   have a7:(p.size:Int)<=9223372036854775807:=by
    have:=ae V;omega
   go_wp2_with fail
   go_loop [6] (fun q=>∃m:Nat,m<=p.size/\q = .int .i64 m/\∀j (x:j<p.size),j<m->okB p[j]=true) (fun q=>p.size-(intOf q).toNat)
   case atStart=>exact⟨0,a0h _,rfl,fun j _ x=>absurd x (by omega)⟩
   case round=>
    obtain⟨m,Z,rfl,D⟩:=hrel;have u:=af D;have K:=af Z;clear D;by_cases P:m<p.size
    .
     have a5:(m:Int)<(p.size:Int):=by omega
     have b:=af P;have y:Hid (okB p[m]=true->∀j (x:j<p.size),j<m+1->okB p[j]=true):=by
      intro e j x an;by_cases G:j=m
      . subst G;exact e
      . exact ae u j x (by omega)
     have a0:(0:Int)<=(p[m].toNat:Int):=by omega
     have al:(p[m].toNat:Int)<256:=by have:=p[m].toNat_lt;omega
     clear Z u K;cases d:okB p[m]
     .
      have H:¬ ((97<=p[m].toNat/\p[m].toNat<=122)∨(48<=p[m].toNat/\p[m].toNat<=57)∨p[m].toNat=46∨p[m].toNat=45∨p[m].toNat=95):=fun e=>Bool.noConfusion (d.symm.trans ((Dk _).2 e));have e46:¬ (p[m].toNat:Int)=46:=by omega
      have e45:¬ (p[m].toNat:Int)=45:=by omega
      have e95:¬ (p[m].toNat:Int)=95:=by omega
      by_cases a1:(97:Int)<=(p[m].toNat:Int)
      .
       have a2:¬ (p[m].toNat:Int)<=122:=by omega
       have a3:(48:Int)<=(p[m].toNat:Int):=by omega
       clear H;have HP:=af (ae f (lN (ae b) d));go_wp2;all_goals first
        | (go_ret;exact⟨aj (ae HP).symm,ae B⟩)
        | (exfalso;rename_i hx;first|omega|(simp at hx;omega))
        | (exfalso;rename_i hx _ _;simp at hx;omega)
      .
       by_cases a3:(48:Int)<=(p[m].toNat:Int)
       .
        have a4:¬ (p[m].toNat:Int)<=57:=by omega
        clear H;have HP:=af (ae f (lN (ae b) d));go_wp2;all_goals first
         | (go_ret;exact⟨aj (ae HP).symm,ae B⟩)
         | (exfalso;rename_i hx;first|omega|(simp at hx;omega))
         | (exfalso;rename_i hx _ _;simp at hx;omega)
       .
        skip
        clear H;have HP:=af (ae f (lN (ae b) d));go_wp2;all_goals first
         | (go_ret;exact⟨aj (ae HP).symm,ae B⟩)
         | (exfalso;rename_i hx;first|omega|(simp at hx;omega))
         | (exfalso;rename_i hx _ _;simp at hx;omega)
     .
      have R:=(Dk p[m]).1 d;rcases R with⟨a1,a2⟩|⟨a1,a2⟩|a1|a1|a1
      .
       have S:(97:Int)<=(p[m].toNat:Int):=by omega
       have b2:(p[m].toNat:Int)<=122:=by omega
       clear a1 a2;go_wp2;all_goals first
        | (
          go_round
          case rel=>exact⟨m+1,by have:=ae b;omega,by go_num,ae y d⟩
          case measure=>have:=ae b;simp[intOf];omega)
        | (exfalso;rename_i hx;first|omega|(simp at hx;omega))
        | (exfalso;rename_i hx _ _;simp at hx;omega)
      .
       have S:¬ (97:Int)<=(p[m].toNat:Int):=by omega
       have b2:(48:Int)<=(p[m].toNat:Int):=by omega
       have b3:(p[m].toNat:Int)<=57:=by omega
       clear a1 a2;go_wp2;all_goals first
        | (
          go_round
          case rel=>exact⟨m+1,by have:=ae b;omega,by go_num,ae y d⟩
          case measure=>have:=ae b;simp[intOf];omega)
        | (exfalso;rename_i hx;first|omega|(simp at hx;omega))
        | (exfalso;rename_i hx _ _;simp at hx;omega)
      .
       have S:(p[m].toNat:Int)=46:=by omega
       clear a1;go_wp2;all_goals first
        | (
          go_round
          case rel=>exact⟨m+1,by have:=ae b;omega,by go_num,ae y d⟩
          case measure=>have:=ae b;simp[intOf];omega)
        | (exfalso;rename_i hx;first|omega|(simp at hx;omega))
        | (exfalso;rename_i hx _ _;simp at hx;omega)
      .
       have S:(p[m].toNat:Int)=45:=by omega
       clear a1;go_wp2;all_goals first
        | (
          go_round
          case rel=>exact⟨m+1,by have:=ae b;omega,by go_num,ae y d⟩
          case measure=>have:=ae b;simp[intOf];omega)
        | (exfalso;rename_i hx;first|omega|(simp at hx;omega))
        | (exfalso;rename_i hx _ _;simp at hx;omega)
      .
       have S:(p[m].toNat:Int)=95:=by omega
       clear a1;go_wp2;all_goals first
        | (
          go_round
          case rel=>exact⟨m+1,by have:=ae b;omega,by go_num,ae y d⟩
          case measure=>have:=ae b;simp[intOf];omega)
        | (exfalso;rename_i hx;first|omega|(simp at hx;omega))
        | (exfalso;rename_i hx _ _;simp at hx;omega)
    .
     obtain rfl:m=p.size:=by have:=ae K;omega
     have L:Hid (∀j (x:j<p.size),okB p[j]=true):=fun j x=>ae u j x x;clear u P Z;cases I:inB (p.size:Int) 1 10
     . have HP:=af (ae f (pe I));go_wp2_with (go_at_call 58;refine(aE _ _ _ _).mono ?_;rintro e w9 ⟨rfl,c⟩;rw[c];clear c;rw[I]);go_ret;exact⟨aj (ae HP).symm,ae B⟩
     .
      cases W:(p.toList == [46])
      .
       cases X:(p.toList == [46,46])
       .
        have HP:=af (ae U (Dt (ae L) I W X));go_wp2_with (go_at_call 58;refine(aE _ _ _ _).mono ?_;rintro e w9 ⟨rfl,c⟩;rw[c];clear c;rw[I])
        go_round
        case rel=>exact⟨k+1,by have:=ae J;omega,by go_num,ae HP⟩
        case measure=>have:=ae J;simp[intOf];omega
       .
        have HP:=af (ae f (uN X));have ad:p.toList=[46,46]:=by simpa using X
        go_wp2_with (go_at_call 58;refine(aE _ _ _ _).mono ?_;rintro e w9 ⟨rfl,c⟩;rw[c];clear c;rw[I]);go_ret;exact⟨aj (ae HP).symm,ae B⟩
      .
       have HP:=af (ae f (yW W));have ac:p.toList=[46]:=by simpa using W
       go_wp2_with (go_at_call 58;refine(aE _ _ _ _).mono ?_;rintro e w9 ⟨rfl,c⟩;rw[c];clear c;rw[I]);go_ret;exact⟨aj (ae HP).symm,ae B⟩
  .
   obtain rfl:k=n:=by omega
   have HY:=af (ae z (ae r));clear r z E HC;by_cases h4:k<=4
   .
    have Y:(k:Int)<=4:=by omega
    go_wp2;go_ret;exact⟨aj (by rw[ae HY];simp[h4]),ae B⟩
   .
    have Y:¬ (k:Int)<=4:=by omega
    go_wp2;go_ret;exact⟨aj (by rw[ae HY];simp[h4]),ae B⟩
end Go.Proofs.YtkdlcomfpffhhaaGreatDoor
