import Derived.Test.YtnhcaifopaeohaaGreatDoorC38
import Derived.Test.YtnhcaifopaeohaaGreatDoorC22
import Derived.Test.YtnhcaifopaeohaaGreatDoorC33
import Derived.Test.YtnhcaifopaeohaaGreatDoorC21
import Derived.Lib.ItoaMem
namespace Go.Proofs.YtnhcaifopaeohaaGreatDoor
open Go.RowKit
set_option linter.all false
def Stop (t:List UInt8):Prop:=∀ c r,t=c::r->wordC c=false
theorem Stop.nil:Stop []:=fun _ _ h=>by cases h
theorem Stop.cons {c:UInt8} {r:List UInt8} (h:wordC c=false):Stop (c::r):=fun _ _ e=>by cases e;exact h
theorem word_blank {c:UInt8} (h:wordC c=true):c≠32:=fun e=>by subst e;revert h;decide
theorem skip_cons {c:UInt8} {l:List UInt8} (h:c≠32):skipL (c::l)=c::l:=by
 unfold skipL;rw [List.dropWhile_cons,if_neg (by simpa using h)]
theorem skip_blank (l:List UInt8):skipL (32::l)=skipL l:=by
 unfold skipL;rw [List.dropWhile_cons];rfl
theorem span_word:∀ (w t:List UInt8),(∀ c∈w,wordC c=true)->Stop t->(w++t).takeWhile wordC=w/\(w++t).dropWhile wordC=t
 | [],t,_,ht=>by
  cases t with
  | nil=>exact ⟨rfl,rfl⟩
  | cons c r =>
   have:=ht c r rfl
   rw [List.nil_append,List.takeWhile_cons,List.dropWhile_cons,this]
   exact ⟨rfl,rfl⟩
 | c::w,t,hw,ht=>by
  obtain ⟨h1,h2⟩:=span_word w t (fun d hd=>hw d (by simp [hd])) ht
  have hc:=hw c (by simp)
  rw [List.cons_append,List.takeWhile_cons,List.dropWhile_cons,hc]
  exact ⟨by rw [if_pos rfl,h1],by rw [if_pos rfl,h2]⟩
theorem wd_word {l w t:List UInt8} (hl:skipL l=w++t) (hw:∀ c∈w,wordC c=true) (ht:Stop t):wdL l=(w,t):=by
 unfold wdL;rw [hl,(span_word w t hw ht).1,(span_word w t hw ht).2]
theorem has_mark {l:List UInt8} {b:UInt8} {t:List UInt8} (hl:skipL l=b::t):hasMark b l=true/\markL b l=t:=by
 have h:hasMark b l=true:=by unfold hasMark;rw [hl];simp
 refine ⟨h,?_⟩
 unfold markL
 rw [if_pos h,hl];rfl
theorem no_mark {l:List UInt8} {b c:UInt8} {t:List UInt8} (hl:skipL l=c::t) (h:c≠b):hasMark b l=false/\markL b l=c::t:=by
 have h:hasMark b l=false:=by unfold hasMark;rw [hl];simp [h]
 refine ⟨h,?_⟩
 unfold markL
 rw [h,hl];rfl
theorem dec_chars (u:Nat):∀ c∈Lib.decDigits u,48<=c.toNat/\c.toNat<=57:=by
 induction u using Nat.strongRecOn with
 | ind u ih =>
  intro c hc;rw [Lib.decDigits] at hc
  split at hc
  ·rename_i h
   rw [List.mem_singleton] at hc;subst hc
   have:(UInt8.ofNat (48+u)).toNat=(48+u) % 256:=by simp
   rw [this];omega
  ·rename_i h
   rcases List.mem_append.1 hc with hc | hc
   ·exact ih (u / 10) (by omega) c hc
   ·rw [List.mem_singleton] at hc;subst hc
    have:(UInt8.ofNat (48+u % 10)).toNat=(48+u % 10) % 256:=by simp
    rw [this];omega
theorem dec_ne (u:Nat):Lib.decDigits u≠[]:=by
 rw [Lib.decDigits]
 split<;>simp
theorem digit_wordB {c:UInt8} (h:48<=c.toNat/\c.toNat<=57):wordC c=true:=by
 unfold wordC partB digitB
 simp;left;left;omega
theorem dec_words (u:Nat):∀ c∈Lib.decDigits u,wordC c=true:=fun c hc=>digit_wordB (dec_chars u c hc)
theorem digs_app (b:Nat):∀ (l:List UInt8) (c:UInt8) (v:Nat),digsP b (l++[c]) v=(digsP b l v).bind (fun v'=>if b<=digP c then none else some (v'*b+digP c))
 | [],c,v=>by simp [digsP]
 | d::l,c,v=>by
  rw [List.cons_append,digsP,digsP]
  split
  ·rfl
  ·exact digs_app b l c _
theorem dig_of {n:Nat} (h:n<10):digP (UInt8.ofNat (48+n))=n:=by
 have:(UInt8.ofNat (48+n)).toNat=48+n:=by simp;omega
 unfold digP
 rw [this,if_pos (by omega)];omega
theorem digs_dec (u:Nat):digsP 10 (Lib.decDigits u) 0=some u:=by
 induction u using Nat.strongRecOn with
 | ind u ih =>
  rw [Lib.decDigits]
  split
  ·rename_i h
   rw [digsP,dig_of h,if_neg (by omega),digsP];simp
  ·rename_i h
   rw [digs_app,ih (u / 10) (by omega),dig_of (by omega)]
   show (if 10<=u % 10 then none else some (u / 10*10+u % 10))=some u
   rw [if_neg (by omega)]
   congr 1
   omega
theorem ndig_le:∀ (k u:Nat),u<10 ^ (k+1)->Lib.nDigits u<=k+1
 | 0,u,h=>by rw [Lib.nDigits_small (by simpa using h)];exact Nat.le_refl _
 | k+1,u,h=>by
  by_cases hu:u<10
  ·rw [Lib.nDigits_small hu];omega
  ·rw [Lib.nDigits_big hu]
   have:=ndig_le k (u / 10) (by rw [Nat.div_lt_iff_lt_mul (by omega)];rw [Nat.pow_succ] at h;exact h)
   omega
theorem dec_len {u:Nat} (h:u<18446744073709551616):(Lib.decDigits u).length<=20:=by
 rw [Lib.decDigits_length]
 exact ndig_le 19 u (by omega)
theorem dec_hex (u:Nat):hexB (Lib.decDigits u)=false:=by
 unfold hexB
 have h:=dec_chars u
 match hd:Lib.decDigits u with
 | []=>rfl
 | [a]=>simp [List.isPrefixOf]
 | a::b::l =>
  rw [hd] at h
  have hb:=h b (by simp)
  have:b≠120:=fun e=>by subst e;revert hb;decide
  simp [List.isPrefixOf]
  intro _ e;exact this e.symm
theorem numOf_dec {u:Nat} (h:u<18446744073709551616):numOfP (Lib.decDigits u)=some u:=by
 unfold numOfP numDigsP numBaseP;rw [dec_hex]
 simp only [Bool.false_eq_true,if_false]
 rw [if_neg (fun e=>e.elim (dec_ne u) (fun c=>by have:=dec_len h;omega)),digs_dec]
theorem dec_head (u:Nat):∃ c r,Lib.decDigits u=c::r/\48<=c.toNat/\c.toNat<=57:=by
 match hd:Lib.decDigits u with
 | []=>exact absurd hd (dec_ne u)
 | c::r=>exact ⟨c,r,rfl,dec_chars u c (by rw [hd];simp)⟩
theorem num_posB {l t:List UInt8} {u:Nat} (hl:skipL l=Lib.decDigits u++t) (h:u<18446744073709551616) (ht:Stop t):numL l=some (⟨u,false⟩,t):=by
 obtain ⟨c,r,hc,h1,h2⟩:=dec_head u
 have hl2:skipL l=c::(r++t):=by rw [hl,hc];rfl
 have hne:c≠45:=fun e=>by subst e;revert h1;decide
 have hne2:c≠32:=fun e=>by subst e;revert h1;decide
 obtain ⟨m1,m2⟩:=no_mark hl2 hne;unfold numL
 have hw:wdL (markL 45 l)=(Lib.decDigits u,t):=wd_word (by rw [m2,skip_cons hne2,<- hl2,hl]) (dec_words u) ht
 rw [m1,hw,numOf_dec h];rfl
theorem num_neg {l t:List UInt8} {u:Nat} (hl:skipL l=45::(Lib.decDigits u++t)) (h:u<18446744073709551616) (ht:Stop t):numL l=some (⟨u,true⟩,t):=by
 obtain ⟨c,r,hc,h1,h2⟩:=dec_head u
 have hne2:c≠32:=fun e=>by subst e;revert h1;decide
 obtain ⟨m1,m2⟩:=has_mark hl;unfold numL
 have hw:wdL (markL 45 l)=(Lib.decDigits u,t):=wd_word (by rw [m2,hc,List.cons_append,skip_cons hne2]) (dec_words u) ht
 rw [m1,hw,numOf_dec h,m2,hc]
 have:(some c==some (32:UInt8))=false:=by simpa using hne2
 simp [this]
theorem num_itoa {l t:List UInt8} {n:Int} (hl:skipL l=Lib.itoa n++t) (h0:-9223372036854775808<=n) (h1:n<=9223372036854775807) (ht:Stop t):numL l=some (⟨n.natAbs,decide (n<0)⟩,t):=by
 unfold Lib.itoa at hl
 by_cases h:n<0
 ·rw [if_pos h] at hl
  rw [num_neg hl (by omega) ht,decide_eq_true h]
 ·rw [if_neg h] at hl
  have e:n.toNat=n.natAbs:=by omega
  rw [e] at hl
  rw [num_posB hl (by omega) ht,decide_eq_false h]
theorem sgn_of {n:Int} {half:Nat} (h0:-(half:Int)<=n) (h1:n<half) (h2:half<=9223372036854775808):(RNum.mk n.natAbs (decide (n<0))).sgnP half=some n:=by
 unfold RNum.sgnP
 rw [if_neg (by show ¬ 18446744073709551616<=n.natAbs;omega)]
 by_cases h:n<0
 ·simp only [decide_eq_true h,if_true]
  rw [if_pos (by omega)];congr 1;omega
 ·simp only [decide_eq_false h,Bool.false_eq_true,if_false]
  rw [if_pos (by omega)];congr 1;omega
theorem reg_words (n:Nat):∀ c∈regP n,wordC c=true:=by
 intro c hc;unfold regP at hc
 rcases List.mem_cons.1 hc with rfl | hc
 ·decide
 ·rw [Lib.itoa_nonneg] at hc;exact dec_words n c hc
theorem itoa_inj {a b:Nat} (h:Lib.itoa (a:Int)=Lib.itoa (b:Int)):a=b:=by
 rw [Lib.itoa_nonneg,Lib.itoa_nonneg] at h
 have:=digs_dec a
 rw [h,digs_dec b] at this
 exact (Option.some.inj this).symm
theorem regOf_reg {n:Nat} (h:n<=10):regOfP (regP n)=some n:=by
 unfold regOfP;rw [List.find?_range_eq_some]
 refine ⟨by simp [regP,regW],List.mem_range.2 (by omega),fun j hj=>?_⟩
 have:regP n≠regW j:=fun e=>by
  unfold regP regW at e
  injection e with _ e
  have:=itoa_inj e
  omega
 simpa using this
theorem regD_rd (r:RSt) {n:Nat} {t:List UInt8} (hl:skipL r.rest=regP n++t) (h:n<=10) (ht:Stop t):r.regD=some { r with d:=n,rest:=t }:=by
 unfold RSt.regD
 rw [wd_word hl (reg_words n) ht,regOf_reg h];rfl
theorem regS_rd (r:RSt) {n:Nat} {t:List UInt8} (hl:skipL r.rest=regP n++t) (h:n<=10) (ht:Stop t):r.regS=some { r with s:=n,rest:=t }:=by
 unfold RSt.regS
 rw [wd_word hl (reg_words n) ht,regOf_reg h];rfl
theorem number_rd (r:RSt) {n:Int} {t:List UInt8} (hl:skipL r.rest=Lib.itoa n++t) (h0:-2147483648<=n) (h1:n<=2147483647) (ht:Stop t):r.number=some { r with num:=n,rest:=t }:=by
 unfold RSt.number
 rw [num_itoa hl (by omega) (by omega) ht]
 have:=sgn_of (n:=n) (half:=2147483648) (by omega) (by omega) (by omega)
 simp [this]
theorem name_words {w:List UInt8} (h:nameB w=true):∀ c∈w,wordC c=true:=by
 unfold nameB at h
 simp only [Bool.and_eq_true] at h
 intro c hc;exact List.all_eq_true.1 h.2 c hc
theorem lab_rd (r:RSt) {w t:List UInt8} (hl:skipL r.rest=w++t) (hw:nameB w=true) (ht:Stop t):r.lab=some { r with label:=w,rest:=t }:=by
 unfold RSt.lab;rw [wd_word hl (name_words hw) ht]
 simp only [hw,if_true]
theorem mark_rd (r:RSt) {b:UInt8} {t:List UInt8} (hl:skipL r.rest=b::t):r.mark b=some { r with rest:=t }:=by
 unfold RSt.mark;obtain ⟨h1,h2⟩:=has_mark hl;rw [if_pos h1,h2]
theorem off_rd (r:RSt) {j:Int} {t:List UInt8} (hl:skipL r.rest=offP j++93::t) (h0:-32768<=j) (h1:j<=32767):r.off=some { r with jump:=if j=0 then r.jump else j,rest:=93::t }:=by
 have ht:Stop (93::t):=Stop.cons (by decide)
 unfold RSt.off;unfold offP at hl
 by_cases hp:0<j
 ·rw [if_pos hp] at hl
  have e:Lib.itoa j=Lib.decDigits j.natAbs:=by
   unfold Lib.itoa
   rw [if_neg (by omega)];congr 1;omega
  rw [e,List.cons_append] at hl
  obtain ⟨a1,_⟩:=no_mark (b:=45) (c:=43) hl (by decide)
  obtain ⟨m1,m2⟩:=has_mark (b:=43) hl
  obtain ⟨c,q,hc,g1,g2⟩:=dec_head j.natAbs
  have hne2:c≠32:=fun e=>by subst e;revert g1;decide
  have hw:wdL (markL 43 r.rest)=(Lib.decDigits j.natAbs,93::t):=wd_word (by rw [m2,hc,List.cons_append,skip_cons hne2]) (dec_words _) ht
  have hs:=sgn_of (n:=j) (half:=32768) (by omega) (by omega) (by omega)
  rw [decide_eq_false (by omega)] at hs
  rw [a1,m1,hw,numOf_dec (by omega)]
  simp [hs,show j≠0 by omega]
 ·by_cases hn:j<0
  ·rw [if_neg hp,if_pos hn] at hl
   have e:Lib.itoa j=45::Lib.decDigits j.natAbs:=by
    unfold Lib.itoa;rw [if_pos hn]
   rw [e,List.cons_append] at hl
   obtain ⟨m1,m2⟩:=has_mark (b:=45) hl
   obtain ⟨c,q,hc,g1,g2⟩:=dec_head j.natAbs
   have hne2:c≠32:=fun e=>by subst e;revert g1;decide
   have hw:wdL (markL 45 r.rest)=(Lib.decDigits j.natAbs,93::t):=wd_word (by rw [m2,hc,List.cons_append,skip_cons hne2]) (dec_words _) ht
   have hs:=sgn_of (n:=j) (half:=32768) (by omega) (by omega) (by omega)
   rw [decide_eq_true hn] at hs
   rw [m1,hw,numOf_dec (by omega)]
   simp [hs,show j≠0 by omega]
  ·have hz:j=0:=by omega
   rw [if_neg hp,if_neg hn,List.nil_append] at hl
   obtain ⟨a1,_⟩:=no_mark (b:=45) (c:=93) hl (by decide)
   obtain ⟨a2,_⟩:=no_mark (b:=43) (c:=93) hl (by decide)
   rw [a1,a2,hl]
   simp [hz]
theorem wide_numB (r:RSt) {h n:Int} {t:List UInt8} (hl:skipL r.rest=Lib.decDigits ((h % 4294967296).toNat*4294967296+(n % 4294967296).toNat)++t) (h0:-2147483648<=h/\h<=2147483647) (h1:-2147483648<=n/\n<=2147483647) (ht:Stop t):r.wide=some { r with num:=n,high:=h,rest:=t }:=by
 have hb:(h % 4294967296).toNat*4294967296+(n % 4294967296).toNat<18446744073709551616:=by omega
 unfold RSt.wide;rw [wd_word hl (dec_words _) ht,num_posB hl hb ht]
 obtain ⟨c,q,hc,g1,g2⟩:=dec_head ((h % 4294967296).toNat*4294967296+(n % 4294967296).toNat)
 have hm:¬ Lib.decDigits ((h % 4294967296).toNat*4294967296+(n % 4294967296).toNat)=[109,97,112]:=fun e=>by
  rw [hc] at e
  injection e with e _
  subst e;revert g2;decide
 simp only [hm,if_false,Option.map_some]
 have hw:(RNum.mk ((h % 4294967296).toNat*4294967296+(n % 4294967296).toNat) false).wideP=some ((h % 4294967296).toNat*4294967296+(n % 4294967296).toNat):=by
  unfold RNum.wideP
  rw [if_neg (by simp only;omega)]
  simp
 rw [hw]
 have e1:lowP ((h % 4294967296).toNat*4294967296+(n % 4294967296).toNat)=n:=by unfold lowP;omega
 have e2:lowP (((h % 4294967296).toNat*4294967296+(n % 4294967296).toNat) / 4294967296)=h:=by unfold lowP;omega
 simp [e1,e2]
theorem wide_mapB (r:RSt) {w t:List UInt8} (hl:skipL r.rest=[109,97,112,32]++w++t) (hw:nameB w=true) (ht:Stop t):r.wide=some { r with s:=1,name:=w,rest:=t }:=by
 unfold RSt.wide
 have h1:wdL r.rest=([109,97,112],32::(w++t)):=wd_word (by rw [hl];simp) (by decide) (Stop.cons (by decide))
 have hne:∃ c q,w=c::q:=by
  cases w with
  | nil=>simp [nameB] at hw
  | cons c q=>exact ⟨c,q,rfl⟩
 obtain ⟨c,q,rfl⟩:=hne
 have hc:=name_words hw c (by simp)
 have h2:wdL (32::(c::q++t))=(c::q,t):=wd_word (by rw [skip_blank,List.cons_append,skip_cons (word_blank hc)]) (name_words hw) ht
 rw [h1]
 simp only [if_true,h2,hw]
def st0 (w l:List UInt8):RSt:=⟨w,l,0,0,0,0,0,[],[],false⟩
theorem reg_skip (n:Nat) (t:List UInt8):skipL (regP n++t)=regP n++t:=by
 unfold regP;rw [List.cons_append,skip_cons (by decide)]
theorem itoa_head (n:Int):∃ c r,Lib.itoa n=c::r/\c≠32/\c≠114:=by
 unfold Lib.itoa
 split
 ·exact ⟨45,_,rfl,by decide,by decide⟩
 ·obtain ⟨c,q,hc,g1,g2⟩:=dec_head n.toNat
  exact ⟨c,q,hc,fun e=>by (subst e;revert g1;decide),fun e=>by (subst e;revert g2;decide)⟩
theorem itoa_skip (n:Int) (t:List UInt8):skipL (Lib.itoa n++t)=Lib.itoa n++t:=by
 obtain ⟨c,r,h,h1,_⟩:=itoa_head n;rw [h,List.cons_append,skip_cons h1]
theorem name_skip {w:List UInt8} (h:nameB w=true) (t:List UInt8):skipL (w++t)=w++t:=by
 cases w with
 | nil=>simp [nameB] at h
 | cons c q=>rw [List.cons_append,skip_cons (word_blank (name_words h c (by simp)))]
theorem off_skip (j:Int) (t:List UInt8):skipL (offP j++93::t)=offP j++93::t:=by
 unfold offP
 split
 ·rw [List.cons_append,skip_cons (by decide)]
 ·split
  ·exact itoa_skip j _
  ·rw [List.nil_append,skip_cons (by decide)]
theorem stop_off (j:Int) (t:List UInt8):Stop (offP j++93::t):=by
 unfold offP
 split
 ·exact Stop.cons (by decide)
 ·split
  ·unfold Lib.itoa
   rename_i h
   rw [if_pos h]
   exact Stop.cons (by decide)
  ·exact Stop.cons (by decide)
section
variable {w l : List UInt8} {d s : Nat} {j n : Int} {lab : List UInt8}
theorem rd_two (hl:skipL l=regP d++44::32::regP s) (hd:d<=10) (hs:s<=10):readPs regsA (st0 w l)=some { st0 w [] with d:=d,s:=s }:=by
 show (RSt.regD (st0 w l)).bind (readPs [.comma,.source])=_
 rw [regD_rd _ hl hd (Stop.cons (by decide)),Option.bind_some]
 show (RSt.mark 44 _).bind (readPs [.source])=_
 rw [mark_rd (t:=32::regP s) _ (by rfl),Option.bind_some]
 show (RSt.regS _).bind (readPs [])=_
 rw [regS_rd (n:=s) (t:=[]) _ (by show skipL (32::regP s)=_;have:=reg_skip s [];rw [List.append_nil] at this;rw [skip_blank,this,List.append_nil]) hs Stop.nil]
 rfl
theorem rd_num (hl:skipL l=regP d++44::32::Lib.itoa n) (hd:d<=10) (h0:-2147483648<=n) (h1:n<=2147483647):readPs numsA (st0 w l)=some { st0 w [] with d:=d,num:=n }:=by
 show (RSt.regD (st0 w l)).bind (readPs [.comma,.number])=_
 rw [regD_rd _ hl hd (Stop.cons (by decide)),Option.bind_some]
 show (RSt.mark 44 _).bind (readPs [.number])=_
 rw [mark_rd (t:=32::Lib.itoa n) _ (by rfl),Option.bind_some]
 show (RSt.number _).bind (readPs [])=_
 rw [number_rd (n:=n) (t:=[]) _ (by show skipL (32::Lib.itoa n)=_;have:=itoa_skip n [];rw [List.append_nil] at this;rw [skip_blank,this,List.append_nil]) h0 h1 Stop.nil]
 rfl
theorem regOf_no {w:List UInt8} (h:w.head?≠some 114):regOfP w=none:=by
 unfold regOfP;rw [List.find?_eq_none];intro m _ e
 have:w=regW m:=by simpa using e
 rw [this] at h;exact h rfl
theorem regS_no (r:RSt) {t:List UInt8} (hl:skipL r.rest=Lib.itoa n++t) (ht:Stop t):r.regS=none:=by
 unfold RSt.regS
 have:regOfP (wdL r.rest).1=none:=by
  apply regOf_no
  unfold wdL;rw [hl];obtain ⟨c,q,h,_,h2⟩:=itoa_head n;rw [h,List.cons_append,List.takeWhile_cons]
  split
  ·simpa using h2
  ·simp
 rw [this];rfl
theorem rd_num_no (hl:skipL l=regP d++44::32::Lib.itoa n) (hd:d<=10):readPs regsA (st0 w l)=none:=by
 show (RSt.regD (st0 w l)).bind (readPs [.comma,.source])=_
 rw [regD_rd _ hl hd (Stop.cons (by decide)),Option.bind_some]
 show (RSt.mark 44 _).bind (readPs [.source])=_
 rw [mark_rd (t:=32::Lib.itoa n) _ (by rfl),Option.bind_some]
 show (RSt.regS _).bind (readPs [])=_
 rw [regS_no (n:=n) (t:=[]) _ (by show skipL (32::Lib.itoa n)=_;have:=itoa_skip n [];rw [List.append_nil] at this;rw [skip_blank,this,List.append_nil]) Stop.nil]
 rfl
theorem rd_one (hl:skipL l=regP d) (hd:d<=10):readPs [.result] (st0 w l)=some { st0 w [] with d:=d }:=by
 show (RSt.regD (st0 w l)).bind (readPs [])=_
 rw [regD_rd (n:=d) (t:=[]) _ (by rw [List.append_nil];exact hl) hd Stop.nil]
 rfl
theorem rd_lab (hl:skipL l=lab) (hw:nameB lab=true):readPs [.label] (st0 w l)=some { st0 w [] with label:=lab }:=by
 show (RSt.lab (st0 w l)).bind (readPs [])=_
 rw [lab_rd (w:=lab) (t:=[]) _ (by rw [List.append_nil];exact hl) hw Stop.nil]
 rfl
theorem rd_jr (hl:skipL l=regP d++44::32::(regP s++44::32::lab)) (hd:d<=10) (hs:s<=10) (hw:nameB lab=true):readPs regsJ (st0 w l)=some { st0 w [] with d:=d,s:=s,label:=lab }:=by
 show (RSt.regD (st0 w l)).bind (readPs [.comma,.source,.comma,.label])=_
 rw [regD_rd _ hl hd (Stop.cons (by decide)),Option.bind_some]
 show (RSt.mark 44 _).bind (readPs [.source,.comma,.label])=_
 rw [mark_rd (t:=32::(regP s++44::32::lab)) _ (by rfl),Option.bind_some]
 show (RSt.regS _).bind (readPs [.comma,.label])=_
 rw [regS_rd (n:=s) (t:=44::32::lab) _ (by show skipL (32::(regP s++44::32::lab))=_;rw [skip_blank,reg_skip]) hs (Stop.cons (by decide)),Option.bind_some]
 show (RSt.mark 44 _).bind (readPs [.label])=_
 rw [mark_rd (t:=32::lab) _ (by rfl),Option.bind_some]
 show (RSt.lab _).bind (readPs [])=_
 rw [lab_rd (w:=lab) (t:=[]) _ (by show skipL (32::lab)=_;have:=name_skip hw [];rw [List.append_nil] at this;rw [skip_blank,this,List.append_nil]) hw Stop.nil]
 rfl
theorem rd_jn (hl:skipL l=regP d++44::32::(Lib.itoa n++44::32::lab)) (hd:d<=10) (h0:-2147483648<=n) (h1:n<=2147483647) (hw:nameB lab=true):readPs numsJ (st0 w l)=some { st0 w [] with d:=d,num:=n,label:=lab }:=by
 show (RSt.regD (st0 w l)).bind (readPs [.comma,.number,.comma,.label])=_
 rw [regD_rd _ hl hd (Stop.cons (by decide)),Option.bind_some]
 show (RSt.mark 44 _).bind (readPs [.number,.comma,.label])=_
 rw [mark_rd (t:=32::(Lib.itoa n++44::32::lab)) _ (by rfl),Option.bind_some]
 show (RSt.number _).bind (readPs [.comma,.label])=_
 rw [number_rd (n:=n) (t:=44::32::lab) _ (by show skipL (32::(Lib.itoa n++44::32::lab))=_;rw [skip_blank,itoa_skip]) h0 h1 (Stop.cons (by decide)),Option.bind_some]
 show (RSt.mark 44 _).bind (readPs [.label])=_
 rw [mark_rd (t:=32::lab) _ (by rfl),Option.bind_some]
 show (RSt.lab _).bind (readPs [])=_
 rw [lab_rd (w:=lab) (t:=[]) _ (by show skipL (32::lab)=_;have:=name_skip hw [];rw [List.append_nil] at this;rw [skip_blank,this,List.append_nil]) hw Stop.nil]
 rfl
theorem rd_jn_no (hl:skipL l=regP d++44::32::(Lib.itoa n++44::32::lab)) (hd:d<=10):readPs regsJ (st0 w l)=none:=by
 show (RSt.regD (st0 w l)).bind (readPs [.comma,.source,.comma,.label])=_
 rw [regD_rd _ hl hd (Stop.cons (by decide)),Option.bind_some]
 show (RSt.mark 44 _).bind (readPs [.source,.comma,.label])=_
 rw [mark_rd (t:=32::(Lib.itoa n++44::32::lab)) _ (by rfl),Option.bind_some]
 show (RSt.regS _).bind (readPs [.comma,.label])=_
 rw [regS_no (n:=n) (t:=44::32::lab) _ (by show skipL (32::(Lib.itoa n++44::32::lab))=_;rw [skip_blank,itoa_skip]) (Stop.cons (by decide))]
 rfl
theorem rd_ld (hl:skipL l=regP d++44::32::91::(regP s++(offP j++[93]))) (hd:d<=10) (hs:s<=10) (h0:-32768<=j) (h1:j<=32767):readPs loadsP (st0 w l)=some { st0 w [] with d:=d,s:=s,jump:=j }:=by
 show (RSt.regD (st0 w l)).bind (readPs [.comma,.opens,.source,.offset,.shut])=_
 rw [regD_rd _ hl hd (Stop.cons (by decide)),Option.bind_some]
 show (RSt.mark 44 _).bind (readPs [.opens,.source,.offset,.shut])=_
 rw [mark_rd (t:=32::91::(regP s++(offP j++[93]))) _ (by rfl),Option.bind_some]
 show (RSt.mark 91 _).bind (readPs [.source,.offset,.shut])=_
 rw [mark_rd (t:=regP s++(offP j++[93])) _ (by rfl),Option.bind_some]
 show (RSt.regS _).bind (readPs [.offset,.shut])=_
 rw [regS_rd (n:=s) (t:=offP j++[93]) _ (by show skipL (regP s++(offP j++[93]))=_;rw [reg_skip]) hs (stop_off j []),Option.bind_some]
 show (RSt.off _).bind (readPs [.shut])=_
 rw [off_rd (j:=j) (t:=[]) _ (by show skipL (offP j++[93])=_;rw [off_skip]) h0 h1,Option.bind_some]
 show (RSt.mark 93 _).bind (readPs [])=_
 rw [mark_rd (t:=[]) _ (by rfl),Option.bind_some]
 by_cases hz:j=0
 ·subst hz;rfl
 ·simp [readPs,st0,hz]
theorem rd_st (hl:skipL l=91::(regP d++(offP j++93::44::32::regP s))) (hd:d<=10) (hs:s<=10) (h0:-32768<=j) (h1:j<=32767):readPs storesP (st0 w l)=some { st0 w [] with d:=d,s:=s,jump:=j }:=by
 show (RSt.mark 91 (st0 w l)).bind (readPs [.operand,.offset,.shut,.comma,.source])=_
 rw [mark_rd _ hl,Option.bind_some]
 show (RSt.regD _).bind (readPs [.offset,.shut,.comma,.source])=_
 rw [regD_rd (n:=d) (t:=offP j++93::44::32::regP s) _ (by show skipL (regP d++_)=_;rw [reg_skip]) hd (stop_off j _),Option.bind_some]
 show (RSt.off _).bind (readPs [.shut,.comma,.source])=_
 rw [off_rd (j:=j) (t:=44::32::regP s) _ (by show skipL (offP j++_)=_;rw [off_skip]) h0 h1,Option.bind_some]
 show (RSt.mark 93 _).bind (readPs [.comma,.source])=_
 rw [mark_rd (t:=44::32::regP s) _ (by rfl),Option.bind_some]
 show (RSt.mark 44 _).bind (readPs [.source])=_
 rw [mark_rd (t:=32::regP s) _ (by rfl),Option.bind_some]
 show (RSt.regS _).bind (readPs [])=_
 rw [regS_rd (n:=s) (t:=[]) _ (by show skipL (32::regP s)=_;have:=reg_skip s [];rw [List.append_nil] at this;rw [skip_blank,this,List.append_nil]) hs Stop.nil]
 by_cases hz:j=0
 ·subst hz;rfl
 ·simp [readPs,st0,hz]
theorem rd_sn (hl:skipL l=91::(regP d++(offP j++93::44::32::Lib.itoa n))) (hd:d<=10) (g0:-2147483648<=n) (g1:n<=2147483647) (h0:-32768<=j) (h1:j<=32767):readPs numbersP (st0 w l)=some { st0 w [] with d:=d,num:=n,jump:=j }:=by
 show (RSt.mark 91 (st0 w l)).bind (readPs [.operand,.offset,.shut,.comma,.number])=_
 rw [mark_rd _ hl,Option.bind_some]
 show (RSt.regD _).bind (readPs [.offset,.shut,.comma,.number])=_
 rw [regD_rd (n:=d) (t:=offP j++93::44::32::Lib.itoa n) _ (by show skipL (regP d++_)=_;rw [reg_skip]) hd (stop_off j _),Option.bind_some]
 show (RSt.off _).bind (readPs [.shut,.comma,.number])=_
 rw [off_rd (j:=j) (t:=44::32::Lib.itoa n) _ (by show skipL (offP j++_)=_;rw [off_skip]) h0 h1,Option.bind_some]
 show (RSt.mark 93 _).bind (readPs [.comma,.number])=_
 rw [mark_rd (t:=44::32::Lib.itoa n) _ (by rfl),Option.bind_some]
 show (RSt.mark 44 _).bind (readPs [.number])=_
 rw [mark_rd (t:=32::Lib.itoa n) _ (by rfl),Option.bind_some]
 show (RSt.number _).bind (readPs [])=_
 rw [number_rd (n:=n) (t:=[]) _ (by show skipL (32::Lib.itoa n)=_;have:=itoa_skip n [];rw [List.append_nil] at this;rw [skip_blank,this,List.append_nil]) g0 g1 Stop.nil]
 by_cases hz:j=0
 ·subst hz;rfl
 ·simp [readPs,st0,hz]
theorem rd_sn_no (hl:skipL l=91::(regP d++(offP j++93::44::32::Lib.itoa n))) (hd:d<=10) (h0:-32768<=j) (h1:j<=32767):readPs storesP (st0 w l)=none:=by
 show (RSt.mark 91 (st0 w l)).bind (readPs [.operand,.offset,.shut,.comma,.source])=_
 rw [mark_rd _ hl,Option.bind_some]
 show (RSt.regD _).bind (readPs [.offset,.shut,.comma,.source])=_
 rw [regD_rd (n:=d) (t:=offP j++93::44::32::Lib.itoa n) _ (by show skipL (regP d++_)=_;rw [reg_skip]) hd (stop_off j _),Option.bind_some]
 show (RSt.off _).bind (readPs [.shut,.comma,.source])=_
 rw [off_rd (j:=j) (t:=44::32::Lib.itoa n) _ (by show skipL (offP j++_)=_;rw [off_skip]) h0 h1,Option.bind_some]
 show (RSt.mark 93 _).bind (readPs [.comma,.source])=_
 rw [mark_rd (t:=44::32::Lib.itoa n) _ (by rfl),Option.bind_some]
 show (RSt.mark 44 _).bind (readPs [.source])=_
 rw [mark_rd (t:=32::Lib.itoa n) _ (by rfl),Option.bind_some]
 show (RSt.regS _).bind (readPs [])=_
 rw [regS_no (n:=n) (t:=[]) _ (by show skipL (32::Lib.itoa n)=_;have:=itoa_skip n [];rw [List.append_nil] at this;rw [skip_blank,this,List.append_nil]) Stop.nil]
 rfl
theorem rd_wn {h:Int} {D:List UInt8} (hD:∃ c q,D=c::q/\c≠32) (key:∀ r:RSt,skipL r.rest=D++[]->r.wide=some { r with num:=n,high:=h,rest:=[] }) (hl:skipL l=regP d++44::32::D) (hd:d<=10):readPs [.result,.comma,.wide] (st0 w l)=some { st0 w [] with d:=d,num:=n,high:=h }:=by
 obtain ⟨c,q,hc,hne2⟩:=hD
 show (RSt.regD (st0 w l)).bind (readPs [.comma,.wide])=_
 rw [regD_rd _ hl hd (Stop.cons (by decide)),Option.bind_some]
 show (RSt.mark 44 _).bind (readPs [.wide])=_
 rw [mark_rd (t:=32::D) _ (by rfl),Option.bind_some]
 show (RSt.wide _).bind (readPs [])=_
 rw [key _ (by show skipL (32::D)=_;rw [skip_blank,hc,skip_cons hne2,List.append_nil])]
 rfl
theorem rd_wm (hl:skipL l=regP d++44::32::([109,97,112,32]++lab)) (hd:d<=10) (hw:nameB lab=true):readPs [.result,.comma,.wide] (st0 w l)=some { st0 w [] with d:=d,s:=1,name:=lab }:=by
 show (RSt.regD (st0 w l)).bind (readPs [.comma,.wide])=_
 rw [regD_rd _ hl hd (Stop.cons (by decide)),Option.bind_some]
 show (RSt.mark 44 _).bind (readPs [.wide])=_
 rw [mark_rd (t:=32::([109,97,112,32]++lab)) _ (by rfl),Option.bind_some]
 show (RSt.wide _).bind (readPs [])=_
 rw [wide_mapB (w:=lab) (t:=[]) _ (by show skipL (32::([109,97,112,32]++lab))=_;rw [skip_blank,List.append_nil];rfl) hw Stop.nil]
 rfl
end
def rowK (k:Nat):OpS:=tableS[k]?.getD noOp
theorem tab_len:tableS.length=88:=by decide +kernel
theorem tab_kinds:∀ k:Fin 88,(rowK k).call=true\/((rowK k).call=false/\((rowK k).parts=regsA\/(rowK k).parts=numsA\/(rowK k).parts=[.result]\/(rowK k).parts=[.label]\/(rowK k).parts=regsJ\/(rowK k).parts=numsJ\/(rowK k).parts=loadsP\/(rowK k).parts=storesP\/(rowK k).parts=numbersP\/(rowK k).parts=[.result,.comma,.wide]\/(rowK k).parts=[])):=by decide +kernel
theorem tab_before:∀ k:Fin 88,∀ j:Fin 88,j<k->(rowK k).call=false->(rowK j).words.contains (rowK k).word=false\/((rowK j).call=false/\(((rowK k).parts=numsA/\(rowK j).parts=regsA)\/((rowK k).parts=numsJ/\(rowK j).parts=regsJ)\/((rowK k).parts=numbersP/\(rowK j).parts=storesP))):=by decide +kernel
theorem tab_callw:∀ k:Fin 88,∀ j:Fin 88,j<k->(rowK k).call=true->(rowK j).words.contains [99,97,108,108]=false/\(rowK j).words.contains [104,101,108,112]=false:=by decide +kernel
def wordOk (w:List UInt8):Bool:=w.all wordC&&!w.isEmpty&&(w != [109,97,112])&&(w != [102,117,110,99])
theorem tab_word:∀ k:Fin 88,(rowK k).call=false->wordOk (rowK k).word=true:=by decide +kernel
theorem tab_jumps:∀ k:Fin 88,(rowK k).jumps=(decide ((rowK k).parts=[.label])||decide ((rowK k).parts=regsJ)||decide ((rowK k).parts=numsJ))/\((rowK k).call=true->(rowK k).jumps=false):=by decide +kernel
theorem tab_refers:∀ k:Fin 88,(rowK k).refers=(if (rowK k).call then 1 else if (rowK k).parts=[.result,.comma,.wide] then 2 else 0)/\(rowK k).slots=(if (rowK k).parts=[.result,.comma,.wide] then 2 else 1)/\((rowK k).call=true->(rowK k).parts=[]):=by decide +kernel
theorem PI.o_row (x:PI):x.o=rowK x.k:=rfl
theorem PRead.o_row (x:PRead) (h:x.k<88):x.o=rowK x.k:=by
 unfold PRead.o rowK
 rw [List.getElem?_eq_getElem (by rw [tab_len];exact h)];rfl
theorem row_get {k:Nat} (h:k<tableS.length):tableS[k]=rowK k:=by
 unfold rowK;rw [List.getElem?_eq_getElem h];rfl
theorem readFrom_at (w l:List UInt8) (r:RSt):∀ (os:List OpS) (k0 i:Nat) (hi:i<os.length),(∀ j (h:j<i),(os[j]'(by omega)).words.contains w=false\/(os[j]'(by omega)).read (st0 w l)=none)->os[i].words.contains w=true->os[i].read (st0 w l)=some r->skipL r.rest=[]->readFrom w l k0 os=some ⟨k0+i,{ r with rest:=[] }⟩
 | [],_,_,hi,_,_,_,_=>by cases hi
 | o::os,k0,0,_,_,hc,hr,hs=>by
  unfold readFrom;rw [List.getElem_cons_zero] at hc hr;rw [if_pos hc]
  have hr':o.read ⟨w,l,0,0,0,0,0,[],[],false⟩=some r:=hr
  rw [hr']
  simp only [hs,if_true,Nat.add_zero]
 | o::os,k0,i+1,hi,hb,hc,hr,hs=>by
  rw [List.getElem_cons_succ] at hc hr
  have ih:=readFrom_at w l r os (k0+1) i (by simpa using hi) (fun j h=>by
   have:=hb (j+1) (by omega)
   simpa using this) hc hr hs
  have e:k0+1+i=k0+(i+1):=by omega
  rw [e] at ih;unfold readFrom
  have h0:=hb 0 (by omega)
  rw [List.getElem_cons_zero] at h0
  rcases h0 with h0 | h0
  ·rw [h0];simpa using ih
  ·have h0':o.read ⟨w,l,0,0,0,0,0,[],[],false⟩=none:=h0
   rw [h0']
   split
   ·exact ih
   ·exact ih
structure PI.Told (x:PI) (lab:List UInt8):Prop where
 k:x.k<88
 j:-32768<=x.jump/\x.jump<=32767
 n:-2147483648<=x.num/\x.num<=2147483647
 h:-2147483648<=x.high/\x.high<=2147483647
 needs:x.o.needs (x.ins [])=true
 one:x.o.slots=1->x.high=0
 nm:x.refers≠0->nameB x.name=true/\x.num=0
 no:x.refers=0->x.name=[]
 lb:x.o.jumps=true->nameB lab=true
 nl:x.o.jumps=false->lab=[]
def PI.word (x:PI):List UInt8:=if x.o.call then (if x.s=1 then [99,97,108,108] else [104,101,108,112]) else x.o.word
def PI.body (x:PI) (lab:List UInt8):List UInt8:=if x.o.call then (if x.s=1 then x.name else helpW[(x.num - 1).toNat]?.getD []) else x.o.parts.flatMap (PK.write { x.ins [] with label:=T lab })
def PI.seen (x:PI) (lab:List UInt8):RSt:=⟨x.word,[],x.d,x.s,if x.o.jumps then 0 else x.jump,x.num,x.high,lab,x.name,false⟩
theorem BL_TB (l:List UInt8):BL (T l)=l:=by simp [BL,T]
theorem write_eq (x:PI) (lab:List UInt8):x.o.write { x.ins [] with label:=T lab }=x.word++(if x.o.call=false/\x.o.parts=[] then [] else 32::x.body lab):=by
 unfold OpS.write PI.word PI.body
 by_cases hc:x.o.call=true
 ·have hn:¬ (x.o.call=false/\x.o.parts=[]):=fun e=>by rw [hc] at e;cases e.1
  simp only [hc,if_true,hn,if_false]
  by_cases hs:x.s=1
  ·simp [PI.ins,hs,BL_TB]
  ·simp [PI.ins,hs]
 ·have hc:x.o.call=false:=by simpa using hc
  simp only [hc,Bool.false_eq_true,if_false,true_and]
  by_cases hp:x.o.parts=[]
  ·simp [hp]
  ·simp [hp]
theorem read_plain {o:OpS} (hc:o.call=false) (r:RSt):o.read r=readPs o.parts r:=by unfold OpS.read;rw [hc];rfl
section
variable {x : PI} {lab : List UInt8}
theorem Told.jumps (h:x.Told lab):x.o.jumps=(decide (x.o.parts=[.label])||decide (x.o.parts=regsJ)||decide (x.o.parts=numsJ)):=(tab_jumps ⟨x.k,h.k⟩).1
theorem Told.refersE (h:x.Told lab):x.o.refers=(if x.o.call then 1 else if x.o.parts=[.result,.comma,.wide] then 2 else 0):=(tab_refers ⟨x.k,h.k⟩).1
theorem Told.slotsE (h:x.Told lab):x.o.slots=(if x.o.parts=[.result,.comma,.wide] then 2 else 1):=(tab_refers ⟨x.k,h.k⟩).2.1
theorem Told.bare (h:x.Told lab) (hc:x.o.call=false) (hp:x.o.parts≠[.result,.comma,.wide]):x.name=[]/\x.high=0:=by
 have h1:=Told.refersE h
 have h2:=Told.slotsE h
 rw [hc,if_neg (by decide),if_neg hp] at h1
 rw [if_neg hp] at h2
 exact ⟨h.no (by unfold PI.refers;rw [h1];split<;>rfl),h.one h2⟩
theorem Told.seen_plain (h:x.Told lab) (hc:x.o.call=false) (hp:x.o.parts≠[.result,.comma,.wide]) (hj:x.o.jumps=false):x.seen lab={ st0 x.word [] with d:=x.d,s:=x.s,jump:=x.jump,num:=x.num }:=by
 obtain ⟨h1,h2⟩:=Told.bare h hc hp;unfold PI.seen st0
 rw [hj,h1,h2,h.nl hj];rfl
theorem Told.seen_jump (h:x.Told lab) (hc:x.o.call=false) (hp:x.o.parts≠[.result,.comma,.wide]) (hj:x.o.jumps=true):x.seen lab={ st0 x.word [] with d:=x.d,s:=x.s,num:=x.num,label:=lab }:=by
 obtain ⟨h1,h2⟩:=Told.bare h hc hp;unfold PI.seen st0
 rw [hj,h1,h2];rfl
theorem body_plain (hc:x.o.call=false):x.body lab=x.o.parts.flatMap (PK.write { x.ins [] with label:=T lab }):=by
 unfold PI.body;rw [hc];rfl
theorem Told.reads_a (h:x.Told lab) (hc:x.o.call=false) (hp:x.o.parts=regsA):x.o.read (st0 x.word (x.body lab))=some (x.seen lab):=by
 have hb:x.body lab=regP x.d++44::32::regP x.s:=by rw [body_plain hc,hp];simp [regsA,PK.write,PI.ins]
 have hn:=h.needs
 rw [need_regsA _ _ hc hp] at hn
 simp only [Bool.and_eq_true,decide_eq_true_eq] at hn
 dsimp only [PI.ins] at hn
 obtain ⟨⟨⟨n1,n2⟩,n3⟩,n4⟩:=hn
 rw [read_plain hc,hp,rd_two (d:=x.d) (s:=x.s) (by rw [hb,reg_skip]) (by omega) n2,Told.seen_plain h hc (by rw [hp];decide) (by rw [Told.jumps h,hp];decide),n3,n4];rfl
theorem Told.reads_b (h:x.Told lab) (hc:x.o.call=false) (hp:x.o.parts=numsA):x.o.read (st0 x.word (x.body lab))=some (x.seen lab)/\readPs regsA (st0 x.word (x.body lab))=none:=by
 have hb:x.body lab=regP x.d++44::32::Lib.itoa x.num:=by rw [body_plain hc,hp];simp [numsA,PK.write,PI.ins]
 have hn:=h.needs
 rw [need_numsA _ _ hc hp] at hn
 simp only [Bool.and_eq_true,decide_eq_true_eq] at hn
 dsimp only [PI.ins] at hn
 obtain ⟨⟨n1,n2⟩,n3⟩:=hn
 refine ⟨?_,rd_num_no (d:=x.d) (n:=x.num) (by rw [hb,reg_skip]) (by omega)⟩
 rw [read_plain hc,hp,rd_num (d:=x.d) (n:=x.num) (by rw [hb,reg_skip]) (by omega) h.n.1 h.n.2,Told.seen_plain h hc (by rw [hp];decide) (by rw [Told.jumps h,hp];decide),n2,n3];rfl
theorem Told.reads_c (h:x.Told lab) (hc:x.o.call=false) (hp:x.o.parts=[.result]):x.o.read (st0 x.word (x.body lab))=some (x.seen lab):=by
 have hb:x.body lab=regP x.d:=by rw [body_plain hc,hp];simp [PK.write,PI.ins]
 have hn:=h.needs
 rw [need_neg _ _ hc hp] at hn
 simp only [Bool.and_eq_true,decide_eq_true_eq] at hn
 dsimp only [PI.ins] at hn
 obtain ⟨⟨⟨n1,n2⟩,n3⟩,n4⟩:=hn
 rw [read_plain hc,hp,rd_one (d:=x.d) (by have:=reg_skip x.d [];rw [List.append_nil] at this;rw [hb,this]) (by omega),Told.seen_plain h hc (by rw [hp];decide) (by rw [Told.jumps h,hp];decide),n2,n3,n4];rfl
theorem Told.reads_d (h:x.Told lab) (hc:x.o.call=false) (hp:x.o.parts=[.label]):x.o.read (st0 x.word (x.body lab))=some (x.seen lab):=by
 have hj:x.o.jumps=true:=by rw [Told.jumps h,hp];decide
 have hl:=h.lb hj
 have hb:x.body lab=lab:=by rw [body_plain hc,hp];simp [PK.write,PI.ins,BL_TB]
 have hn:=h.needs
 rw [need_ja _ _ hc hp] at hn
 simp only [Bool.and_eq_true,decide_eq_true_eq] at hn
 dsimp only [PI.ins] at hn
 obtain ⟨⟨n1,n2⟩,n3⟩:=hn
 rw [read_plain hc,hp,rd_lab (lab:=lab) (by have:=name_skip hl [];rw [List.append_nil] at this;rw [hb,this]) hl,Told.seen_jump h hc (by rw [hp];decide) hj,n1,n2,n3];rfl
theorem Told.reads_e (h:x.Told lab) (hc:x.o.call=false) (hp:x.o.parts=regsJ):x.o.read (st0 x.word (x.body lab))=some (x.seen lab):=by
 have hj:x.o.jumps=true:=by rw [Told.jumps h,hp];decide
 have hl:=h.lb hj
 have hb:x.body lab=regP x.d++44::32::(regP x.s++44::32::lab):=by rw [body_plain hc,hp];simp [regsJ,PK.write,PI.ins,BL_TB]
 have hn:=h.needs
 rw [need_regsJ _ _ hc hp] at hn
 simp only [Bool.and_eq_true,decide_eq_true_eq] at hn
 dsimp only [PI.ins] at hn
 obtain ⟨⟨n1,n2⟩,n3⟩:=hn
 rw [read_plain hc,hp,rd_jr (d:=x.d) (s:=x.s) (lab:=lab) (by rw [hb,reg_skip]) n1 n2 hl,Told.seen_jump h hc (by rw [hp];decide) hj,n3];rfl
theorem Told.reads_f (h:x.Told lab) (hc:x.o.call=false) (hp:x.o.parts=numsJ):x.o.read (st0 x.word (x.body lab))=some (x.seen lab)/\readPs regsJ (st0 x.word (x.body lab))=none:=by
 have hj:x.o.jumps=true:=by rw [Told.jumps h,hp];decide
 have hl:=h.lb hj
 have hb:x.body lab=regP x.d++44::32::(Lib.itoa x.num++44::32::lab):=by rw [body_plain hc,hp];simp [numsJ,PK.write,PI.ins,BL_TB]
 have hn:=h.needs
 rw [need_numsJ _ _ hc hp] at hn
 simp only [Bool.and_eq_true,decide_eq_true_eq] at hn
 dsimp only [PI.ins] at hn
 obtain ⟨n1,n2⟩:=hn
 refine ⟨?_,rd_jn_no (d:=x.d) (n:=x.num) (lab:=lab) (by rw [hb,reg_skip]) n1⟩
 rw [read_plain hc,hp,rd_jn (d:=x.d) (n:=x.num) (lab:=lab) (by rw [hb,reg_skip]) n1 h.n.1 h.n.2 hl,Told.seen_jump h hc (by rw [hp];decide) hj,n2];rfl
theorem Told.reads_g (h:x.Told lab) (hc:x.o.call=false) (hp:x.o.parts=loadsP):x.o.read (st0 x.word (x.body lab))=some (x.seen lab):=by
 have hb:x.body lab=regP x.d++44::32::91::(regP x.s++(offP x.jump++[93])):=by rw [body_plain hc,hp];simp [loadsP,PK.write,PI.ins]
 have hn:=h.needs
 rw [need_loads _ _ hc hp] at hn
 simp only [Bool.and_eq_true,decide_eq_true_eq] at hn
 dsimp only [PI.ins] at hn
 obtain ⟨⟨n1,n2⟩,n3⟩:=hn
 rw [read_plain hc,hp,rd_ld (d:=x.d) (s:=x.s) (j:=x.jump) (by rw [hb,reg_skip]) (by omega) n2 h.j.1 h.j.2,Told.seen_plain h hc (by rw [hp];decide) (by rw [Told.jumps h,hp];decide),n3];rfl
theorem Told.reads_h (h:x.Told lab) (hc:x.o.call=false) (hp:x.o.parts=storesP):x.o.read (st0 x.word (x.body lab))=some (x.seen lab):=by
 have hb:x.body lab=91::(regP x.d++(offP x.jump++93::44::32::regP x.s)):=by rw [body_plain hc,hp];simp [storesP,PK.write,PI.ins]
 have hn:=h.needs
 rw [need_stores _ _ hc hp] at hn
 simp only [Bool.and_eq_true,decide_eq_true_eq] at hn
 dsimp only [PI.ins] at hn
 obtain ⟨⟨n1,n2⟩,n3⟩:=hn
 rw [read_plain hc,hp,rd_st (d:=x.d) (s:=x.s) (j:=x.jump) (by rw [hb,skip_cons (by decide)]) n1 n2 h.j.1 h.j.2,Told.seen_plain h hc (by rw [hp];decide) (by rw [Told.jumps h,hp];decide),n3];rfl
theorem Told.reads_i (h:x.Told lab) (hc:x.o.call=false) (hp:x.o.parts=numbersP):x.o.read (st0 x.word (x.body lab))=some (x.seen lab)/\readPs storesP (st0 x.word (x.body lab))=none:=by
 have hb:x.body lab=91::(regP x.d++(offP x.jump++93::44::32::Lib.itoa x.num)):=by rw [body_plain hc,hp];simp [numbersP,PK.write,PI.ins]
 have hn:=h.needs
 rw [need_numbers _ _ hc hp] at hn
 simp only [Bool.and_eq_true,decide_eq_true_eq] at hn
 dsimp only [PI.ins] at hn
 obtain ⟨n1,n2⟩:=hn
 refine ⟨?_,rd_sn_no (d:=x.d) (n:=x.num) (j:=x.jump) (by rw [hb,skip_cons (by decide)]) n1 h.j.1 h.j.2⟩
 rw [read_plain hc,hp,rd_sn (d:=x.d) (n:=x.num) (j:=x.jump) (by rw [hb,skip_cons (by decide)]) n1 h.n.1 h.n.2 h.j.1 h.j.2,Told.seen_plain h hc (by rw [hp];decide) (by rw [Told.jumps h,hp];decide),n2];rfl
theorem Told.reads_w (h:x.Told lab) (hc:x.o.call=false) (hp:x.o.parts=[.result,.comma,.wide]):x.o.read (st0 x.word (x.body lab))=some (x.seen lab):=by
 have hj:x.o.jumps=false:=by rw [Told.jumps h,hp];decide
 have hr:x.o.refers=2:=by rw [Told.refersE h,hc,hp];rfl
 have hn:=h.needs
 rw [need_wide _ _ hc hp] at hn
 simp only [Bool.and_eq_true,Bool.or_eq_true,decide_eq_true_eq] at hn
 dsimp only [PI.ins] at hn
 obtain ⟨⟨n1,n2⟩,n3⟩:=hn
 by_cases hs:x.s=1
 ·have hrf:x.refers≠0:=by unfold PI.refers;rw [if_pos hs,hr];decide
  obtain ⟨hnm,hnu⟩:=h.nm hrf
  have hh:x.high=0:=by omega
  have hb:x.body lab=regP x.d++44::32::([109,97,112,32]++x.name):=by rw [body_plain hc,hp];simp [PK.write,PI.ins,wideP,hs,BL_TB]
  rw [read_plain hc,hp,rd_wm (d:=x.d) (lab:=x.name) (by rw [hb,reg_skip]) (by omega) hnm]
  unfold PI.seen st0
  rw [hj,hs,hh,hnu,n3,h.nl hj];rfl
 ·have hs0:x.s=0:=by omega
  have hrf:x.refers=0:=by unfold PI.refers;rw [if_neg hs]
  have hb:x.body lab=regP x.d++44::32::Lib.decDigits ((x.high % 4294967296).toNat*4294967296+(x.num % 4294967296).toNat):=by rw [body_plain hc,hp];simp [PK.write,PI.ins,wideP,hs0,PIns.wide]
  rw [read_plain hc,hp,rd_wn (d:=x.d) (n:=x.num) (h:=x.high) (D:=Lib.decDigits ((x.high % 4294967296).toNat*4294967296+(x.num % 4294967296).toNat)) (by
   obtain ⟨c,q,hcq,g1,g2⟩:=dec_head ((x.high % 4294967296).toNat*4294967296+(x.num % 4294967296).toNat)
   exact ⟨c,q,hcq,fun e=>by (subst e;revert g1;decide)⟩) (fun r hr=>wide_numB r hr h.h h.n Stop.nil) (by rw [hb,reg_skip]) (by omega)]
  unfold PI.seen st0
  rw [hj,hs0,n3,h.nl hj,h.no hrf];rfl
theorem Told.reads_x (h:x.Told lab) (hc:x.o.call=false) (hp:x.o.parts=[]):x.o.read (st0 x.word [])=some (x.seen lab):=by
 have hn:=h.needs
 rw [need_exit _ _ hc hp] at hn
 simp only [Bool.and_eq_true,decide_eq_true_eq] at hn
 dsimp only [PI.ins] at hn
 obtain ⟨⟨⟨n1,n2⟩,n3⟩,n4⟩:=hn
 rw [read_plain hc,hp,Told.seen_plain h hc (by rw [hp];decide) (by rw [Told.jumps h,hp];decide),n1,n2,n3,n4];rfl
theorem Told.reads_call (h:x.Told lab) (hc:x.o.call=true):x.o.read (st0 x.word (x.body lab))=some (x.seen lab):=by
 have hj:x.o.jumps=false:=(tab_jumps ⟨x.k,h.k⟩).2 hc
 have hr:x.o.refers=1:=by rw [Told.refersE h,hc];rfl
 have hpn:x.o.parts=[]:=(tab_refers ⟨x.k,h.k⟩).2.2 hc
 have hh:x.high=0:=h.one (by rw [Told.slotsE h,hpn];rfl)
 have hn:=h.needs
 rw [need_call _ _ hc] at hn
 simp only [Bool.and_eq_true,Bool.or_eq_true,decide_eq_true_eq] at hn
 dsimp only [PI.ins] at hn
 obtain ⟨⟨n1,n2⟩,n3⟩:=hn
 unfold OpS.read;rw [if_pos hc]
 by_cases hs:x.s=1
 ·have hrf:x.refers≠0:=by unfold PI.refers;rw [if_pos hs,hr];decide
  obtain ⟨hnm,hnu⟩:=h.nm hrf
  have hb:x.body lab=x.name:=by unfold PI.body;rw [if_pos hc,if_pos hs]
  have hw:x.word=[99,97,108,108]:=by unfold PI.word;rw [if_pos hc,if_pos hs]
  have hd:wdL x.name=(x.name,[]):=wd_word (by have:=name_skip hnm [];rw [List.append_nil] at this;rw [this,List.append_nil]) (name_words hnm) Stop.nil
  unfold RSt.call PI.seen st0;rw [hb,hw]
  simp only [if_true,hd,hnm]
  rw [hj,hs,hh,hnu,n1,n2,h.nl hj];rfl
 ·have hs0:x.s=0:=by omega
  have hrf:x.refers=0:=by unfold PI.refers;rw [if_neg hs]
  have hw:x.word=[104,101,108,112]:=by unfold PI.word;rw [if_pos hc,if_neg hs]
  have hb:x.body lab=helpW[(x.num - 1).toNat]?.getD []:=by unfold PI.body;rw [if_pos hc,if_neg hs]
  have hv:∃ m:Fin 4,x.num=(1+m.1:Nat):=⟨⟨(x.num - 1).toNat,by omega⟩,by simp only;omega⟩
  obtain ⟨m,hm⟩:=hv
  have hm1:(x.num - 1).toNat=m.1:=by omega
  have key:∀ m:Fin 4,wdL (helpW[m.1]?.getD [])=(helpW[m.1]?.getD [],[])/\helpW.findIdx? (fun h=>h==helpW[m.1]?.getD [])=some m.1:=by decide +kernel
  obtain ⟨k1,k2⟩:=key m;unfold RSt.call PI.seen st0;rw [hb,hw,hm1]
  simp only [k1]
  rw [if_neg (by decide),k2,Option.map_some,hj,hs0,hh,hm,n1,n2,h.nl hj,h.no hrf];rfl
end
def okCB (c:UInt8):Bool:=decide (32<=c.toNat)&&decide (c.toNat<=126)&&(c != 59)
theorem word_okB {c:UInt8} (h:wordC c=true):okCB c=true:=by
 have hn:c≠59:=fun e=>by subst e;revert h;decide
 unfold wordC partB digitB smallB at h;unfold okCB
 simp only [Bool.or_eq_true,Bool.and_eq_true,decide_eq_true_eq,beq_iff_eq] at h
 simp only [Bool.and_eq_true,decide_eq_true_eq,bne_iff_ne]
 exact ⟨⟨by omega,by omega⟩,hn⟩
theorem takeWhile_allB (p:UInt8->Bool):∀ l:List UInt8,(∀ d∈l,p d=true)->l.takeWhile p=l
 | [],_=>rfl
 | c::l,h=>by rw [List.takeWhile_cons,if_pos (h c (by simp)),takeWhile_allB p l (fun d hd=>h d (by simp [hd]))]
theorem new_ok {l:List UInt8} (h:∀ c∈l,okCB c=true):newL l=some l:=by
 unfold newL
 rw [if_pos (List.all_eq_true.2 (fun c hc=>by
  have:=h c hc
  unfold okCB at this
  simp only [Bool.and_eq_true,decide_eq_true_eq] at this ⊢
  omega))]
 congr 1
 refine takeWhile_allB _ _ (fun c hc=>?_)
 have:=h c hc
 unfold okCB at this
 simp only [Bool.and_eq_true] at this
 exact this.2
theorem itoa_ok (n:Int):∀ c∈Lib.itoa n,okCB c=true:=by
 intro c hc;unfold Lib.itoa at hc
 split at hc
 ·rcases List.mem_cons.1 hc with rfl | hc
  ·decide
  ·exact word_okB (dec_words _ c hc)
 ·exact word_okB (dec_words _ c hc)
theorem off_ok (j:Int):∀ c∈offP j,okCB c=true:=by
 intro c hc;unfold offP at hc
 split at hc
 ·rcases List.mem_cons.1 hc with rfl | hc
  ·decide
  ·exact itoa_ok _ c hc
 ·split at hc
  ·exact itoa_ok _ c hc
  ·cases hc
theorem nameB_ok {w:List UInt8} (h:nameB w=true):∀ c∈w,okCB c=true:=fun c hc=>word_okB (name_words h c hc)
theorem part_ok {x:PI} {lab:List UInt8} (h:x.Told lab) (hw:x.s=1->nameB x.name=true\/x.o.parts≠[.result,.comma,.wide]) (p:PK) (hp:p∈x.o.parts) (hc:x.o.call=false):∀ c∈PK.write { x.ins [] with label:=T lab } p,okCB c=true:=by
 have hlab:∀ c∈lab,okCB c=true:=by
  cases hj:x.o.jumps with
  | true=>exact nameB_ok (h.lb hj)
  | false=>rw [h.nl hj];intro c hc;cases hc
 intro c hcm;unfold PK.write at hcm
 split at hcm
 ·rcases List.mem_cons.1 hcm with rfl | hcm
  ·decide
  ·rw [List.mem_singleton.1 hcm];decide
 ·rw [List.mem_singleton.1 hcm];decide
 ·rw [List.mem_singleton.1 hcm];decide
 ·exact word_okB (reg_words _ c hcm)
 ·exact word_okB (reg_words _ c hcm)
 ·exact word_okB (reg_words _ c hcm)
 ·exact itoa_ok _ c hcm
 ·have:c∈lab:=by simpa [PI.ins,BL_TB] using hcm
  exact hlab c this
 ·exact off_ok _ c hcm
 ·unfold wideP at hcm
  split at hcm
  ·rename_i hs
   have hs1:x.s=1:=hs
   rcases hw hs1 with hn | hn
   ·rcases List.mem_append.1 hcm with hcm | hcm
    ·have key:∀ c∈([109,97,112,32]:List UInt8),okCB c=true:=by decide
     exact key c hcm
    ·exact nameB_ok hn c (by simpa [PI.ins,BL_TB] using hcm)
   ·exfalso
    rcases tab_kinds ⟨x.k,h.k⟩ with g | ⟨_,g⟩
    ·have:=hc;rw [PI.o_row] at this;rw [this] at g;cases g
    ·rw [PI.o_row] at hp hn
     rcases g with g | g | g | g | g | g | g | g | g | g | g<;>first | exact hn g | (rw [g] at hp;revert hp;decide)
  ·exact word_okB (dec_words _ c hcm)
 ·cases hcm
end Go.Proofs.YtnhcaifopaeohaaGreatDoor
