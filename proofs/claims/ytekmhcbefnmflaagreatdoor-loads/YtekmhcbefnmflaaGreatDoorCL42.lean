import Derived.Test.YtekmhcbefnmflaaGreatDoorCL39
namespace Go.Proofs.YtekmhcbefnmflaaGreatDoor
open Go.RowKit Tryz
open Bool renaming and_eq_true->ab,true->eJ,false->eE
open Decidable renaming decide->eS
open List renaming length->ee
set_option linter.all false
set_option maxHeartbeats 1000000
def DV(f:cZ)(slot:Nat):Bool:=(atS 0 f.code).any (λp=>p.2==slot)
theorem wh{f:cZ}{slot:Nat}(h:DV f slot=eJ):lD f slot:=by
 obtain⟨p,hp,e⟩:=List.any_eq_true.1 h;have e':p.2=slot:=by simpa using e
 exact⟨p.1,by rw[<-e'];exact hp⟩
def adW(fn mn:Nat)(x:PI):Bool :=
 eS (x.k<88)&&eS (x.d<11)&&eS (x.s<11)&&eS (-32768<=x.jump)&&eS (x.jump<=32767)
 && (if(dw x.o.code).t=6 then(if x.s=1 then eS (0<=x.num)&&eS (x.num<fn)else eS (1<=x.num)&&eS (x.num<=4))else eJ)
 && (if(dw x.o.code).t=5 then(if x.s=1 then eS (0<=x.num)&&eS (x.num<mn)else eJ)else eJ)
 && (if(dw x.o.code).t=3 then eS (0<(dw x.o.code).k)&&eS ((dw x.o.code).k<=8)else eJ)
 && (if(dw x.o.code).t=4 then eS (0<(dw x.o.code).k)&&eS ((dw x.o.code).k<=8)else eJ)
def adX(fs:List cZ)(mn:Nat):Bool:=fs.all λf=>DV f 0&&eS (aL f.code<=1000)&&(atS 0 f.code).all λp=>adW (ee fs) mn p.1
 && (if(dw p.1.o.code).t=1 then eS (0<=p.1.target p.2)&&DV f (p.1.target p.2).toNat else eJ)
 && (if(dw p.1.o.code).t=2 then eS (0<=p.1.target p.2)&&DV f (p.1.target p.2).toNat else(if(dw p.1.o.code).t<=6 then DV f (p.2+p.1.o.slots)else eJ))
theorem XE{fs:List cZ}{mn:Nat}(h:adX fs mn=eJ)(hn:∀f∈fs,∀x∈f.code,(-2147483648<=x.num/\x.num<=2147483647)/\-2147483648<=x.high/\x.high<=2147483647):sw fs mn:=by
 have hf:∀f∈fs,_:=λf hf=>List.all_eq_true.1 h f hf;refine⟨λf hm=>?_,λf hm=>?_,λf hm p hp=>?_⟩
 ·have:=hf f hm;rw[ab,ab]at this;exact wh this.1.1
 ·have:=hf f hm;rw[ab,ab]at this
  simpa using this.1.2
 ·have h0:=hf f hm;rw[ab,ab]at h0;have h1:=List.all_eq_true.1 h0.2 p hp;rw[ab,ab]at h1;obtain⟨⟨hi,hj⟩,hk⟩:=h1;obtain⟨adY,hhigh⟩:=hn f hm p.1 (BM _ _ _ hp);unfold adW at hi;simp only[ab,decide_eq_true_eq]at hi;obtain⟨⟨⟨⟨⟨⟨⟨⟨i1,i2⟩,i3⟩,i4⟩,i5⟩,i8⟩,i9⟩,i10⟩,i11⟩:=hi;refine⟨⟨i2,i3,⟨i4,i5⟩,adY,λh6=>?_,λh5 hs=>?_,λOi=>?_⟩,⟨i1,by omega,by omega,⟨i4,i5⟩,adY,hhigh⟩,λh12=>?_,λh2 h6=>?_⟩
  ·rw[iP9 h6]at i8;exact⟨λhs=>by rw[iP9 hs]at i8;simpa using i8,λhs=>by rw[iN9 hs]at i8;simpa using i8⟩
  ·rw[iP9 h5,iP9 hs]at i9
   simpa using i9
  ·rcases Oi with h3|h4
   ·rw[iP9 h3]at i10;simpa using i10
   ·rw[iP9 h4]at i11;simpa using i11
  ·rcases h12 with h1|h2
   ·rw[iP9 h1,ab]at hj;exact⟨by simpa using hj.1,wh hj.2⟩
   ·rw[iP9 h2,ab]at hk;exact⟨by simpa using hk.1,wh hk.2⟩
  ·rw[iN9 h2,iP9 h6]at hk;exact wh hk
def adZ(w:tW)(ms:List aW)(fs:List cZ)(sb:Nat)(w':tW):Prop:=∃bs b vF vM gs mb tv wT,ak w' sb #[pt b] 63/\w.heap.size<=sb/\aa ah w w'/\aa ah w wT/\eU (vJ 0) (.int .u32 0) wT tv bs b vF fs gs (Xt vM mb (ee ms)) [] (ji ms) w'/\∀k,Whole b vF gs (Xt vM mb (ee ms)) k->w.heap.size<=k
def aaZ(ms:List aW)(fs:List cZ):Bool:=eS (ee fs<=1000)&&eS (ee ms<=1000)&&(fs.all λf=>eS (ee f.name<=255)&&eS (ee f.code<=2000))&&(ms.all λm=>eS (ee m.name<=255)&&eS (1<=m.key)&&eS (m.key<=8)&&eS (1<=m.value)&&eS (m.value<=16)&&eS (m.entries<=8))
theorem KC(w:tW)(hW:xG w)(Nw:tLB)(hs:ee Nw<=maxLen)(ms:List aW)(fs:List cZ)(hD:bQ Nw=(ms,fs,⟨[],eE⟩))(hz:aaZ ms fs=eJ):Calls prog 10 #[.string (T Nw)] w λe w'=>∃sb,e=.returned (.tuple #[pt sb,vI 0])/\adZ w ms fs sb w':=by
 unfold aaZ at hz;simp only[ab,decide_eq_true_eq,List.all_eq_true]at hz;obtain⟨⟨⟨z1,z2⟩,z3⟩,z4⟩:=hz;have hok:∀m∈ms,FD m:=λm hm=>by obtain⟨⟨⟨⟨⟨_,a⟩,b⟩,c⟩,d⟩,e⟩:=z4 m hm;exact⟨⟨a,b⟩,⟨c,d⟩,e⟩
 have hl:=Ka w hW Nw hs (λ_=>by rw[hD];refine⟨λf hf=>z3 f hf,λm hm=>?_,z1,z2⟩;obtain⟨⟨⟨⟨⟨a0,a⟩,b⟩,c⟩,d⟩,e⟩:=z4 m hm;exact⟨a0,by omega,by omega,by omega⟩);rw[hD]at hl;refine(FE w (T Nw) _ hl).mono λe w' h=>?_;unfold mQ at h;rw[iN9 (by simp)]at h;obtain⟨sb,bs,b,vF,vM,gs,mb,tv,wT,he,hO,mT,hP,hA,hB,hl,m⟩:=h;refine⟨sb,he,bs,b,vF,vM,gs,mb,tv,wT,hB,hl,m,mT,hA.mch hO hok,λk hk=>?_⟩;refine Nat.le_trans mT.size ?_;rcases hk with rfl|hk|hk|hk|hk
 ·exact hA.lo
 ·exact(hA.mch hO hok).base k hk
 ·exact hA.Ar k hk
 ·exact hA.rR k hk
 ·exact hA.BA k hk
set_option linter.all false
def triB(d:UR):Bool:=match d.t with
 |0=>eS (d.m=0\/(d.m=2/\d.k=2))
 |1=>eE
 |2=>eE
 |3=>eE
 |4=>eE
 |5=>eE
 |6=>eE
 |_=>eJ
theorem XF(w:tW)(rb mb:tLN)(f:Fn)(c:tAV)(m k:Nat)(h:iR w f c m k)(hm:m=0\/(m=2/\k=2))(d s:MV)(hd:d.bits<18446744073709551616)(hs:s.bits<18446744073709551616):WW w rb mb f c m k d s:=by
 rcases hm with rfl |⟨rfl,rfl⟩
 ·unfold iR at h;obtain⟨rfl,rfl⟩:=h;exact⟨_,rfl,enters_of func204 (by kernel_rfl) rfl,λw' _=>aan w' rb mb d s⟩
 ·unfold iR at h;obtain⟨rfl,b,rfl,hb⟩:=h;exact⟨_,rfl,enters_of func225 (by kernel_rfl) rfl,λw' mm=>Xh rb mb 2 d s (enters_of func210 (by kernel_rfl) rfl) (λw'=>aft w' _ _ _) b w' (hb.ae mm id)⟩
theorem aci{F:Nat->Prop}{w:tW}{b:Nat}{a:Ad}{s:bZ}{fn:Nat}(h:jk F w b a s)(ho:dD fn s)(hF:∀k,w.heap.size<=k->F k)(x:PI)(bs:tLN)(f9:Fn)(c9:tAV)(hD:DoAt w f9 c9 (dw x.o.code))(hx:Oz fn (ee s.ms) x)(hT:(dw x.o.code).t=1\/(dw x.o.code).t=2->∀w',aa ah w w'->Calls prog 235 #[.agg (x.ins bs).cells,vI s.r.top.slot] w' λe w''=>e=.returned (vI ((x.target s.r.top.slot).toNat:Nat))/\aa ah w' w'')(KD:triB (dw x.o.code)=eJ):∃k,f9=.func k/\ym k/\Calls prog k (#[pt b,.agg (x.ins bs).cells]++c9) w λe w'=>gX F w b a (doP (dw x.o.code) x s) e w':=by
 have hr:=h.run;have hc:=hx.call;have hw:=hx.wide;have hz:=hx.size;generalize dw x.o.code=dd at *;obtain⟨t,m,k,bq⟩:=dd;have hd1:=(ho.bq x.d).1;have hd2:(Sq bq (x.ins bs) s.r).bits<18446744073709551616:=(OA ho bq x).1;unfold DoAt at hD;simp only at hD hT hc hw hz;split at hD
 ·obtain⟨rfl,b1,b2,fr,cr,rfl,hb1,hb2,hk⟩:=hD;refine⟨_,rfl,enters_of func223 (by kernel_rfl) rfl,?_⟩;cases hv:rkP m k (s.r.bq x.d) (zm bq x s)with
  |none =>rw[show doP ⟨0,m,k,bq⟩ x s=(2,s) by simp only[doP,hv]];exact(abV w b a.rb a.mb a.vM a.vC a.vL s.r hr ho.pos (x.ins bs) hx.d bq (λ_=>hx.s) b1 b2 fr cr hb1 hb2 m k (XF w a.rb a.mb fr cr m k hk (by simpa [triB]using KD) _ _ hd1 hd2) hv).mono (λe w' hh=>by rw[hh.1];exact gX.trap (by decide) h hh.2)
  |some v =>rw[show doP ⟨0,m,k,bq⟩ x s=(0,{s with r:=s.r.ik x.d v}) by simp only[doP,hv]];exact(abU w b a.rb a.mb a.vM a.vC a.vL s.r hr ho.pos (x.ins bs) hx.d bq (λ_=>hx.s) b1 b2 fr cr hb1 hb2 m k (XF w a.rb a.mb fr cr m k hk (by simpa [triB]using KD) _ _ hd1 hd2) v hv).mono (λe w' hh=>by rw[hh.1];exact gX.ok (h.WY hh.2.2 _ hh.2.1 rfl))
 ·simp[triB]at KD
 ·simp[triB]at KD
 ·simp[triB]at KD
 ·simp[triB]at KD
 ·simp[triB]at KD
 ·simp[triB]at KD
 ·rename_i t' n0 n1 n2 n3 n4 n5 n6
  obtain⟨rfl,rfl⟩:=hD;refine⟨_,rfl,enters_of func139 (by kernel_rfl) rfl,?_⟩;have e7:doP ⟨t,m,k,bq⟩ x s=doP ⟨7,m,k,bq⟩ x s:=by unfold doP;simp only
  rw[e7];by_cases h1:ee s.r.calls=1
  ·by_cases h2:(s.r.bq 0).so=0
   ·rw[show doP ⟨7,m,k,bq⟩ x s=(0,{s with r:=s.r.finish (s.r.bq 0).bits}) by simp only[doP,iP9 h1,iP9 h2]];refine Nb w b (x.ins bs) _ (λw' mm=>?_);exact(WN w' b a.rb a.mb a.vM a.vC a.vL s.r (hr.quiet mm) h1 h2).mono (λe w2 hh=>⟨.inl hh.1,by rw[hh.1];exact(gX.ok ((h.quiet mm).WV (hh.2.2.mono (λk _ hk=>.inl hk)) _ hh.2.1 rfl)).from mm⟩)
   ·rw[show doP ⟨7,m,k,bq⟩ x s=(2,s) by simp only[doP,iP9 h1,iN9 h2]];refine Nb w b (x.ins bs) _ (λw' mm=>?_);exact(WO w' b a.rb a.mb a.vM a.vC a.vL s.r (hr.quiet mm) h1 h2).mono (λe w2 hh=>⟨.inr ⟨2,hh.1⟩,by rw[hh.1];exact(gX.trap (by decide) (h.quiet mm) hh.2).from mm⟩)
  ·rw[show doP ⟨7,m,k,bq⟩ x s=(0,{s with r:=s.r.back,gs:=s.gs.set s.r.top.qA []}) by simp only[doP,iN9 h1]];refine Nb w b (x.ins bs) _ (λw' mm=>?_);have hq:=ho.top.qA;have h':=h.quiet mm;refine(Sg w' b a.rb a.mb a.vM a.vC a.vL s.r h'.run (by have:=ho.pos;omega) _ (h'.Bj.blk _ hq)).mono ?_;rintro e w3 ⟨WI,rfl,hr3,hC,w2,m1,m2⟩;obtain⟨k1,k2⟩:=h'.backTo _ hq WI hC s.r.back (aH.Ng _ _) w2 m1 m2 hr3;have hp:gX F w' b a (0,{s with r:=s.r.back,gs:=s.gs.set s.r.top.qA []}) (.returned (.tuple #[])) w3:=⟨rfl,k2,_,k1,rfl,rfl⟩
   exact⟨.inl rfl,hp.from mm⟩
def Nx(fs:List cZ):Prop:=∀f∈fs,∀p∈atS 0 f.code,triB (dw p.1.o.code)=eJ
theorem SY{fs:List cZ}(h:Nx fs)(F:Nat->Prop)(b:Nat):OE F b fs:=λf hf p hp bs w a s f9 c9 hs ho hF hD hx hT=>aci hs ho hF p.1 bs f9 c9 hD hx hT (h f hf p hp)
theorem KE{fs:List cZ}(h:Nx fs):zw fs:=λf hf p hp h6 h1 _=>by
 have:=h f hf p hp;unfold triB at this;rw[h6]at this;cases this
