import Derived.Test.YtbmcofdodfcnnaaGreatDoorGY
import Derived.Test.YtbmcofdodfcnnaaGreatDoorGQ
set_option linter.all false
set_option maxHeartbeats 400000000
set_option maxRecDepth 100000
namespace Go.Proofs.YtbmcofdodfcnnaaGreatDoor
open Pn
open Go.Proofs.Tryz
open Go.RowKit
theorem c6F (kd N:Int) (S:ByteArray) (bl:Bool) (w:World):
    Calls prog 241 #[.agg #[.int .u8 kd,.string S,.int .i64 N,.bool bl]] w fun e w'=>e=.returned (.int .i64 (a6J kd S))/\Below w.heap.size w w':=by
 have hBq:=a9J S;by_cases hk:(kd != 119)=true
 ·go_enter func241,ntmps241
  go_wp2_with fail;go_ret;exact ⟨a0P (a4k (fun h=>by simp[h.1]at hk)).symm,(Below.refl _ _).alloc (Nat.le_refl _) _⟩
 ·have hk':(kd != 119)=false:=by simpa using hk
  clear hk;by_cases h2:(S.size:Int)<2
  ·go_enter func241,ntmps241
   go_wp2_with fail;go_ret;exact ⟨a0P (a4k (fun h=>by omega)).symm,(Below.refl _ _).alloc (Nat.le_refl _) _⟩
  ·by_cases h3:(3:Int)<S.size
   ·go_enter func241,ntmps241
    go_wp2_with fail;go_ret;exact ⟨a0P (a4k (fun h=>by omega)).symm,(Below.refl _ _).alloc (Nat.le_refl _) _⟩
   ·have hz:0<S.size:=by omega
    (have hz':(0:Int)<S.size:=by omega);by_cases hx:(((Pn.B S 0).toNat:Int) != 120)=true
    ·go_enter func241,ntmps241
     go_wp2_with fail;go_ret;exact ⟨a0P (a4k (fun h=>by simp[h.2.2.2.1]at hx)).symm,(Below.refl _ _).alloc (Nat.le_refl _) _⟩
    ·have hx':(((Pn.B S 0).toNat:Int) != 120)=false:=by simpa using hx
     clear hx;go_enter func241,ntmps241;go_wp2_with fail;(go_loopw [3,4] (fun n i wx=>∃k:Nat,1<=k/\k<=S.size/\i=.int .i64 k/\n=.int .i64 (a1t S 1 k)/\Hid (a7d S k=true)/\w.alloc (.cells #[.int .u8 kd,.string S,.int .i64 N,.bool bl] 268)=wx) (fun _ i _=>S.size-(intOf i).toNat));case atStart=>exact ⟨1,by omega,by omega,rfl,by rw[a2v],b6J S,rfl⟩
     case round=>
      obtain ⟨k,hk1,hk2,rfl,rfl,hd,hw⟩:=hrel;subst hw;(have nb:=a3T S 1 k hk1 hk2 (by omega) (a4W hd.out));by_cases hlt:k<S.size
      ·have hlt':(k:Int)<S.size:=by omega
       (have cb:((Pn.B S k).toNat:Int)<=255:=by have:=(Pn.B S k).toNat_lt;omega);by_cases hdk:a0t (Pn.B S k).toNat=true
       ·have HS:=a0a (a2Z S 1 k hk1 hlt)
        generalize hN:a1t S 1 k=M at *;have HN:=a0a hN;clear hN;go_wp2_with (go_at_call 208;refine (a0y _ _).mono ?_;rintro e w' ⟨rfl,rfl⟩);go_roundw;(case rel=>exact ⟨k+1,by omega,by omega,by go_num,by rw[a0b HS],b6h hd.out hdk,by first|rfl|trivial⟩);case measure=>simp[intOf];omega
       ·have hdk':a0t (Pn.B S k).toNat=false:=by simpa using hdk
        clear hdk;generalize hN:a1t S 1 k=M at *;have HN:=a0a hN;clear hN;go_wp2_with (go_at_call 208;refine (a0y _ _).mono ?_;rintro e w' ⟨rfl,rfl⟩);go_ret;exact ⟨a0P (a4k (fun h=>c0n hk1 hlt hdk' h.2.2.2.2.1)).symm,(Below.refl _ _).alloc (Nat.le_refl _) _⟩
      ·have hke:k=S.size:=by omega
       subst hke;(have hlt':¬(S.size:Int)<S.size:=by omega);(have h1s:(1:Int)<S.size:=by omega);(have h1n:1<S.size:=by omega);generalize hN:a1t S 1 S.size=M at *;have HN:=a0a hN;clear hN;by_cases h31:31<M
       ·go_wp2_with fail
        go_ret;exact ⟨a0P (a4k (fun h=>by have:=h.2.2.2.2.2.1;rw[a0b HN]at this;omega)).symm,(Below.refl _ _).alloc (Nat.le_refl _) _⟩
       ·have h31':¬31<M:=h31
        by_cases hs3:((S.size:Int)==3)=true
        ·by_cases h48:(((Pn.B S 1).toNat:Int)==48)=true
         ·go_wp2_with fail
          go_ret;exact ⟨a0P (a4k (fun h=>h.2.2.2.2.2.2 ⟨by simp at hs3;omega,by simp at h48;omega⟩)).symm,(Below.refl _ _).alloc (Nat.le_refl _) _⟩
         ·have h48':(((Pn.B S 1).toNat:Int)==48)=false:=by simpa using h48
          clear h48;go_wp2_with fail;go_ret;refine ⟨a0P ?_,(Below.refl _ _).alloc (Nat.le_refl _) _⟩;unfold a6J;rw[if_pos ⟨by simpa using hk',by omega,by omega,by simp at hx';omega,hd.out,by rw[a0b HN];omega,fun h=>by simp[h.2]at h48'⟩,a0b HN]
        ·have hs3':((S.size:Int)==3)=false:=by simpa using hs3
         clear hs3;go_wp2_with fail;go_ret;refine ⟨a0P ?_,(Below.refl _ _).alloc (Nat.le_refl _) _⟩;unfold a6J;rw[if_pos ⟨by simpa using hk',by omega,by omega,by simp at hx';omega,hd.out,by rw[a0b HN];omega,fun h=>by simp[h.1]at hs3'⟩,a0b HN]
def a2L (w:World) (v:Value) (L:List Pn.Tok):Prop:=
 ∃ao cap,v=.slice ao L.length cap/\(L≠[]->∃g o,ao=some ⟨g,o,none⟩/\g<w.heap.size/\∀k t,L[k]?=some t->
  w.cell? ⟨g,o+k*4,none⟩=some (.int .u8 t.kind)/\w.cell? ⟨g,o+k*4+1,none⟩=some (.string t.S)/\w.cell? ⟨g,o+k*4+2,none⟩=some (.int .i64 t.num)/\w.cell? ⟨g,o+k*4+3,none⟩=some (.bool t.blank))
def a1z (o:Option (List Int×Int×ByteArray)) (w:World) (e:Ending) (w':World):Prop:=
 match o with
 | none=>e=.returned (.tuple #[.slice none 0 0,.int .i64 0,.string ⟨#[]⟩,.bool false])
 | some (rs,n,nm)=>∃v,e=.returned (.tuple #[v,.int .i64 n,.string nm,.bool true])/\w'.ownsRow w.heap.size 3 1 v rs.length (rs.map (.int .i64))
def c7J (L:List Pn.Tok) (F:ByteArray) (w:World) (regs n nm k:Value) (wr:World):Prop:=
 ∃(q:Nat) (rs:List Int) (nn:Int) (ns:ByteArray),q<=L.length/\rs.length<=q/\k=.int .i64 q/\n=.int .i64 nn/\nm=.string ns/\wr.ownsRow w.heap.size 3 1 regs rs.length (rs.map (.int .i64))/\
  Hid (a0r L F.data.toList [] 0 ⟨#[]⟩=a0r (L.drop q) (F.data.toList.drop q) rs nn ns)/\Below w.heap.size w wr
theorem infoInt:(prog.info? 3).map (fun i=>(i.zero,i.size,i.bytes))=some (some (.int .i64 0),1,8):=by kernel_rfl
theorem a1Y {L:List Pn.Tok} {F:ByteArray} {w wr:World} {regs n nm:Value} {q:Nat} {rs rs':List Int} {nn nn':Int} {ns ns':ByteArray} {t:Pn.Tok}
    (ht:L[q]?=some t) (hF:q<F.size) (hq:q<L.length) (hr:rs'.length<=q+1)
    (hno:a0r L F.data.toList [] 0 ⟨#[]⟩=a0r (L.drop q) (F.data.toList.drop q) rs nn ns)
    (hst:∀l F',a0r (t::l) (Pn.B F q::F') rs nn ns=a0r l F' rs' nn' ns')
    (hn:n=.int .i64 nn') (hm:nm=.string ns') (hown:wr.ownsRow w.heap.size 3 1 regs rs'.length (rs'.map (.int .i64))) (hB:Below w.heap.size w wr):
    ∀kv:Value,kv=.int .i64 ((q+1:Nat):Int)->c7J L F w regs n nm kv wr:=by
 rintro _ rfl;refine ⟨q+1,rs',nn',ns',by omega,hr,rfl,hn,hm,hown,?_,hB⟩
 show a0r L F.data.toList [] 0 ⟨#[]⟩=_;rw[hno,a0N F q hF,List.drop_eq_getElem_cons hq];have:L[q]=t:=by rw[List.getElem?_eq_getElem hq]at ht;exact Option.some.inj ht
 rw[this,hst]
theorem a5T {L:List Pn.Tok} {F:ByteArray} {w wr:World} {q:Nat} {rs:List Int} {nn:Int} {ns:ByteArray} {t:Pn.Tok} {e:Ending}
    (ht:L[q]?=some t) (hF:q<F.size) (hq:q<L.length)
    (hno:a0r L F.data.toList [] 0 ⟨#[]⟩=a0r (L.drop q) (F.data.toList.drop q) rs nn ns)
    (hst:∀l F',a0r (t::l) (Pn.B F q::F') rs nn ns=none) (he:e=.returned (.tuple #[.slice none 0 0,.int .i64 0,.string ⟨#[]⟩,.bool false])):a1z (a0r L F.data.toList [] 0 ⟨#[]⟩) w e wr:=by
 rw[hno,a0N F q hF,List.drop_eq_getElem_cons hq];have:L[q]=t:=by rw[List.getElem?_eq_getElem hq]at ht;exact Option.some.inj ht
 rw[this,hst];exact he
theorem a1H {w w':World} {base:Nat} {e:TypeId} {size:Nat} {v:Value} {n:Nat} {xs:List Value} (h:w.ownsRow base e size v n xs) (hB:Below w.heap.size w w'):w'.ownsRow base e size v n xs:=
 h.kept (row:=none) ⟨hB.os,hB.tape,hB.output,hB.size,fun k hk _=>hB.block k hk⟩ (by cases hv:v.ownBlock;exact .inl rfl;exact .inr (by simp))
theorem a5M {w:World} {base:Nat} {e:TypeId} {size:Nat} {v:Value} {n:Nat} {xs:List Value} (h:w.ownsRow base e size v n xs) (d:Nat):(w.drewN d).ownsRow base e size v n xs:=h
theorem c06 {L:List Pn.Tok} {F:ByteArray} {q:Nat} {rs:List Int} {nn:Int} {ns:ByteArray} (hno:a0r L F.data.toList [] 0 ⟨#[]⟩=a0r (L.drop q) (F.data.toList.drop q) rs nn ns) (h1:L.length<=q) (h2:F.size<=q):
    a0r L F.data.toList [] 0 ⟨#[]⟩=some (rs,nn,ns):=by
 rw[hno,List.drop_eq_nil_of_le h1,List.drop_eq_nil_of_le (by simpa using h2),a0J]
theorem b2U (L:List Pn.Tok) (F:ByteArray) (g o cap:Nat) (w:World) (hl:L.length<=2000) (hg:g<w.heap.size) (hLF:L.length=F.size)
    (hc:∀k t,L[k]?=some t->w.cell? ⟨g,o+k*4,none⟩=some (.int .u8 t.kind)/\w.cell? ⟨g,o+k*4+1,none⟩=some (.string t.S)/\w.cell? ⟨g,o+k*4+2,none⟩=some (.int .i64 t.num)/\w.cell? ⟨g,o+k*4+3,none⟩=some (.bool t.blank)):
    Calls prog 209 #[.slice (some ⟨g,o,none⟩) L.length cap,.string F] w fun e w'=>a1z (a0r L F.data.toList [] 0 ⟨#[]⟩) w e w'/\Below w.heap.size w w':=by
 obtain ⟨i0,hi,hz0,hz1,hz2⟩:=info_parts infoInt;have HC:=a0a hc;clear hc;generalize hn:L.length=n at *;have HL:=a0a hn;have HF:=a0a hLF;have hsz:(n:Int)<=2000:=by omega
 have hFs:(F.size:Int)=n:=by omega
 clear hn hLF;go_enter func209,ntmps209;go_wp2_with fail;go_loopw [8,9,10,11] (fun regs a nm k wr=>c7J L F w regs a nm k wr) (fun _ _ _ k _=>n-(intOf k).toNat)
 case atStart=>exact ⟨0,[],0,⟨#[]⟩,by omega,by simp,rfl,rfl,rfl,World.ownsRow_nil _ _ _ _,by simp[Hid],Below.refl _ _⟩
 case round=>
  obtain ⟨q,rs,nn,ns,hq1,hrs,rfl,rfl,rfl,hown,hno,hB⟩:=hrel;rw[a0b HL]at hq1;have HO:Hid (wr.ownsRow w.heap.size 3 1 u8 rs.length (rs.map (.int .i64))):=hown;have HB:Hid (Below w.heap.size w wr):=hB;have hzr:w.heap.size<=wr.heap.size:=hB.size;clear hown;have hBq:=a9J F;by_cases hlt:q<n
  ·have hlt2:(q:Int)<n:=by omega
   (have hltF:q<F.size:=by have:=a0b HF;omega);(have hltL:q<L.length:=by rw[a0b HL];exact hlt);obtain ⟨t,htt⟩:∃t,L[q]?=some t:=⟨L[q],List.getElem?_eq_getElem hltL⟩;obtain ⟨x0,x1,x2,x3⟩:=(a0b HC) q t htt;have y0:=(hB.cell (p:=⟨g,o+q*4,none⟩) hg).trans x0;have y1:=(hB.cell (p:=⟨g,o+q*4+1,none⟩) hg).trans x1;have y2:=(hB.cell (p:=⟨g,o+q*4+2,none⟩) hg).trans x2;have y3:=(hB.cell (p:=⟨g,o+q*4+3,none⟩) hg).trans x3;have HT:=a0a htt;clear x0 x1 x2 x3 hB htt;by_cases f1:(((Pn.B F q).toNat:Int)==114)=true
   ·-- a a0e
    have HF1:Hid (Pn.B F q=114):=c8b f1;(go_upto_region 13 with (go_at_call 241;refine (c6F t.kind t.num t.S t.blank _).mono ?_;rintro e w3 ⟨rfl,hB3⟩;(have HB3:Hid (Below w.heap.size w w3):=(HB.out.alloc HB.out.size _).trans (hB3.mono (by simp;omega)));(have HO3:Hid (w3.ownsRow w.heap.size 3 1 u8 rs.length (rs.map (.int .i64))):=a1H (HO.out.alloc _) hB3);clear hB3));have hrb:=b6Z t.kind t.S;by_cases hneg:a6J t.kind t.S<0
    ·go_wp2_with fail
     exact bodyPost_ret (v:=.tuple #[.slice none 0 0,.int .i64 0,.string ⟨#[]⟩,.bool false]) (by simp[results,results209,go_sem]) rfl ⟨a5T (a0b HT) hltF hltL hno.out (fun l F'=>b1C HF1.out t l F' rs nn ns hneg) rfl,HB3.out⟩
    ·go_wp2_with (first
      | (at_builtin;refine wpList_append_own _ rfl _ _ 49 rfl w.heap.size 3 i0 (.int .i64 0) 1 8 underlying49 hi hz0 hz1 hz2 rfl (by decide) _ rs.length _ rfl (HO3.out.alloc _) ⟨w3.heap.size,0,none⟩ 1 1 [_] rfl rfl (cell_one_new _ _ _) ?h1 ?h63 ?hby ?hbase ?_
         (case h1=>intro x hx;simp at hx;subst hx;rfl);(case h63=>unfold maxLen;omega);(case hby=>omega);(case hbase=>have:=HB3.out.size;simp;omega);intro v' w4 hown' hgrow3 hnil3;(have X:Hid (w4.ownsRow w.heap.size 3 1 v' (rs.length+1) _/\Below w.heap.size w w4):=⟨hown',Below.grown (HB3.out.alloc HB3.out.size _) hgrow3 (by have:=HB3.out.size;simp;omega) (fun q hq=>(HO3.out.lt q hq).1)⟩);clear hown' hgrow3 hnil3))
     go_roundw;(case rel=>first|exact a1Y (rs':=rs++[a6J t.kind t.S]) (a0b HT) hltF hltL (by simp;omega) hno.out (fun l F'=>b9J HF1.out t l F' rs nn ns hneg) rfl rfl (by simpa using X.out.1) X.out.2 _ (by go_num)|((repeat apply Exists.intro);refine ⟨?_,rfl⟩;exact a1Y (rs':=rs++[a6J t.kind t.S]) (a0b HT) hltF hltL (by simp;omega) hno.out (fun l F'=>b9J HF1.out t l F' rs nn ns hneg) rfl rfl (by simpa using X.out.1) X.out.2 _ (by go_num)));case measure=>simp[intOf];omega
   ·have f1':(((Pn.B F q).toNat:Int)==114)=false:=by simpa using f1
    (have HF1:Hid (Pn.B F q≠114):=b5f (n:=114) (by omega) f1');clear f1;have HBa:Hid (Below w.heap.size w (wr.alloc (.cells #[.int .u8 t.kind,.string t.S,.int .i64 t.num,.bool t.blank] 268))):=HB.out.alloc HB.out.size _;have HOa:Hid ((wr.alloc (.cells #[.int .u8 t.kind,.string t.S,.int .i64 t.num,.bool t.blank] 268)).ownsRow w.heap.size 3 1 u8 rs.length (rs.map (.int .i64))):=HO.out.alloc _;by_cases f2:(((Pn.B F q).toNat:Int)==105)=true
    ·have HF2:Hid (Pn.B F q=105):=c8b f2
     (have f3:(((Pn.B F q).toNat:Int)==116)=false:=by rw[HF2.out];rfl);by_cases k1:(t.kind==105)=true
     ·go_wp2_with fail
      go_roundw;(case rel=>first|exact a1Y (a0b HT) hltF hltL (by omega) hno.out (fun l F'=>a9B HF1.out (.inl HF2.out) t l F' rs nn ns (by simpa using k1)) rfl rfl HOa.out HBa.out _ (by go_num)|((repeat apply Exists.intro);refine ⟨?_,rfl⟩;exact a1Y (a0b HT) hltF hltL (by omega) hno.out (fun l F'=>a9B HF1.out (.inl HF2.out) t l F' rs nn ns (by simpa using k1)) rfl rfl HOa.out HBa.out _ (by go_num)));case measure=>simp[intOf];omega
     ·have k1':(t.kind==105)=false:=by simpa using k1
      (have k2':(((Pn.B F q).toNat:Int)==t.kind)=false:=by rw[HF2.out];simp at k1 ⊢;omega);clear k1;go_wp2_with fail;go_quiet (fail);go_wp2_with fail;exact bodyPost_ret (v:=.tuple #[.slice none 0 0,.int .i64 0,.string ⟨#[]⟩,.bool false]) (by simp[results,results209,go_sem]) rfl ⟨a5T (a0b HT) hltF hltL hno.out (fun l F'=>a5y HF1.out t l F' rs nn ns (fun h=>by simp[h.2]at k1') (fun h=>by have:=h.1;rw[HF2.out]at this;exact absurd this (by decide)) (fun h=>h.2 HF2.out)) rfl,below_drewN HBa.out _⟩
    ·have f2':(((Pn.B F q).toNat:Int)==105)=false:=by simpa using f2
     (have HF2:Hid (Pn.B F q≠105):=b5f (n:=105) (by omega) f2');(have f2n:(((Pn.B F q).toNat:Int) != 105)=true:=by simpa using f2');clear f2;by_cases f3:(((Pn.B F q).toNat:Int)==116)=true
     ·have HF3:Hid (Pn.B F q=116):=c8b f3
      by_cases k1:(t.kind==105)=true
      ·go_wp2_with fail
       go_roundw;(case rel=>first|exact a1Y (a0b HT) hltF hltL (by omega) hno.out (fun l F'=>a9B HF1.out (.inr HF3.out) t l F' rs nn ns (by simpa using k1)) rfl rfl (HOa.out) (HBa.out) _ (by go_num)|((repeat apply Exists.intro);refine ⟨?_,rfl⟩;exact a1Y (a0b HT) hltF hltL (by omega) hno.out (fun l F'=>a9B HF1.out (.inr HF3.out) t l F' rs nn ns (by simpa using k1)) rfl rfl (HOa.out) (HBa.out) _ (by go_num)));case measure=>simp[intOf];omega
      ·have k1':(t.kind==105)=false:=by simpa using k1
       clear k1;by_cases k2:(t.kind==119)=true
       ·by_cases k3:(t.S.size:Int)<=8
        ·go_wp2_with fail
         go_roundw;(case rel=>first|exact a1Y (a0b HT) hltF hltL (by omega) hno.out (fun l F'=>b8e HF3.out t l F' rs nn ns (by simpa using k2) (by omega)) rfl rfl (HOa.out) (HBa.out) _ (by go_num)|((repeat apply Exists.intro);refine ⟨?_,rfl⟩;exact a1Y (a0b HT) hltF hltL (by omega) hno.out (fun l F'=>b8e HF3.out t l F' rs nn ns (by simpa using k2) (by omega)) rfl rfl (HOa.out) (HBa.out) _ (by go_num)));case measure=>simp[intOf];omega
        ·have k3':decide ((t.S.size:Int)<=8)=false:=by simpa using k3
         (have k4:(((Pn.B F q).toNat:Int)==t.kind)=false:=by rw[HF3.out];simp at k2 ⊢;omega);go_wp2_with fail;go_quiet (fail);go_wp2_with fail;exact bodyPost_ret (v:=.tuple #[.slice none 0 0,.int .i64 0,.string ⟨#[]⟩,.bool false]) (by simp[results,results209,go_sem]) rfl ⟨a5T (a0b HT) hltF hltL hno.out (fun l F'=>a5y HF1.out t l F' rs nn ns (fun h=>by simp[h.2]at k1') (fun h=>by have:=h.2.2;omega) (fun h=>by simp[h.1]at k4)) rfl,below_drewN HBa.out _⟩
       ·have k2':(t.kind==119)=false:=by simpa using k2
        clear k2;by_cases k4:(((Pn.B F q).toNat:Int)==t.kind)=true
        ·go_wp2_with fail
         go_quiet (fail);go_wp2_with fail;go_roundw;(case rel=>first|exact a1Y (a0b HT) hltF hltL (by omega) hno.out (fun l F'=>b1T HF1.out t l F' rs nn ns (fun h=>by simp[h.2]at k1') (fun h=>by simp[h.2.1]at k2') (by simpa using k4) HF2.out) rfl rfl (a5M HOa.out _) (below_drewN HBa.out _) _ (by go_num)|((repeat apply Exists.intro);refine ⟨?_,rfl⟩;exact a1Y (a0b HT) hltF hltL (by omega) hno.out (fun l F'=>b1T HF1.out t l F' rs nn ns (fun h=>by simp[h.2]at k1') (fun h=>by simp[h.2.1]at k2') (by simpa using k4) HF2.out) rfl rfl (a5M HOa.out _) (below_drewN HBa.out _) _ (by go_num)));case measure=>simp[intOf];omega
        ·have k4':(((Pn.B F q).toNat:Int)==t.kind)=false:=by simpa using k4
         clear k4;go_wp2_with fail;go_quiet (fail);go_wp2_with fail;exact bodyPost_ret (v:=.tuple #[.slice none 0 0,.int .i64 0,.string ⟨#[]⟩,.bool false]) (by simp[results,results209,go_sem]) rfl ⟨a5T (a0b HT) hltF hltL hno.out (fun l F'=>a5y HF1.out t l F' rs nn ns (fun h=>by simp[h.2]at k1') (fun h=>by simp[h.2.1]at k2') (fun h=>by simp[h.1]at k4')) rfl,below_drewN HBa.out _⟩
     ·have f3':(((Pn.B F q).toNat:Int)==116)=false:=by simpa using f3
      (have HF3:Hid (Pn.B F q≠116):=b5f (n:=116) (by omega) f3');clear f3;by_cases k4:(((Pn.B F q).toNat:Int)==t.kind)=true
      ·go_wp2_with fail
       go_quiet (fail);go_wp2_with fail;go_roundw;(case rel=>first|exact a1Y (a0b HT) hltF hltL (by omega) hno.out (fun l F'=>b1T HF1.out t l F' rs nn ns (fun h=>h.1.elim HF2.out HF3.out) (fun h=>HF3.out h.1) (by simpa using k4) HF2.out) rfl rfl (a5M HOa.out _) (below_drewN HBa.out _) _ (by go_num)|((repeat apply Exists.intro);refine ⟨?_,rfl⟩;exact a1Y (a0b HT) hltF hltL (by omega) hno.out (fun l F'=>b1T HF1.out t l F' rs nn ns (fun h=>h.1.elim HF2.out HF3.out) (fun h=>HF3.out h.1) (by simpa using k4) HF2.out) rfl rfl (a5M HOa.out _) (below_drewN HBa.out _) _ (by go_num)));case measure=>simp[intOf];omega
      ·have k4':(((Pn.B F q).toNat:Int)==t.kind)=false:=by simpa using k4
       clear k4;go_wp2_with fail;go_quiet (fail);go_wp2_with fail;exact bodyPost_ret (v:=.tuple #[.slice none 0 0,.int .i64 0,.string ⟨#[]⟩,.bool false]) (by simp[results,results209,go_sem]) rfl ⟨a5T (a0b HT) hltF hltL hno.out (fun l F'=>a5y HF1.out t l F' rs nn ns (fun h=>h.1.elim HF2.out HF3.out) (fun h=>HF3.out h.1) (fun h=>by simp[h.1]at k4')) rfl,below_drewN HBa.out _⟩
  ·have hqn:q=n:=by omega
   (have HE:=a0a (c06 hno.out (by rw[a0b HL];omega) (by have:=a0b HF;omega)));go_wp2_with fail;(refine bodyPost_ret (v:=.tuple #[u8,.int .i64 nn,.string ns,.bool true]) (by simp[results,results209,go_sem]) rfl ⟨?_,HB.out⟩);rw[a0b HE];exact ⟨u8,rfl,HO.out⟩
theorem b2y (ao:Option Addr) (n cap:Nat) (F:ByteArray) (w:World) (h:n≠F.size):
    Calls prog 209 #[.slice ao n cap,.string F] w fun e w'=>e=.returned (.tuple #[.slice none 0 0,.int .i64 0,.string ⟨#[]⟩,.bool false])/\w'=w:=by
 have h':((n:Int) != F.size)=true:=by simp;omega
 clear h;go_enter func209,ntmps209;go_wp2_with fail;exact bodyPost_ret (v:=.tuple #[.slice none 0 0,.int .i64 0,.string ⟨#[]⟩,.bool false]) (by simp[results,results209,go_sem]) rfl ⟨rfl,rfl⟩
theorem b1u (ao:Option Addr) (cap:Nat) (F:ByteArray) (w:World) (h:F.size=0):
    Calls prog 209 #[.slice ao 0 cap,.string F] w fun e w'=>e=.returned (.tuple #[.slice none 0 0,.int .i64 0,.string ⟨#[]⟩,.bool true])/\w'=w:=by
 go_enter func209,ntmps209;go_wp2_with fail;go_loop [8,9,10,11] (fun a b c k=>a=.slice none 0 0/\b=.int .i64 0/\c=.string ⟨#[]⟩/\k=.int .i64 0) (fun _ _ _ _=>0)
 case atStart=>exact ⟨rfl,rfl,rfl,rfl⟩
 case round=>
  obtain ⟨rfl,rfl,rfl,rfl⟩:=hrel;go_wp2_with fail;exact bodyPost_ret (v:=.tuple #[.slice none 0 0,.int .i64 0,.string ⟨#[]⟩,.bool true]) (by simp[results,results209,go_sem]) rfl ⟨rfl,rfl⟩
theorem a1f (L:List Pn.Tok) (F:ByteArray) (v:Value) (w:World) (hl:L.length<=2000) (hv:a2L w v L):
    Calls prog 209 #[v,.string F] w fun e w'=>a1z (a0r L F.data.toList [] 0 ⟨#[]⟩) w e w'/\Below w.heap.size w w':=by
 obtain ⟨ao,cap,rfl,hc⟩:=hv;by_cases hLF:L.length=F.size
 ·by_cases hL:L=[]
  ·subst hL
   (have hz:F.size=0:=by simpa using hLF.symm);refine (b1u ao cap F w hz).mono ?_;rintro e w' ⟨rfl,rfl⟩;refine ⟨?_,Below.refl _ _⟩;(have:F.data.toList=[]:=List.eq_nil_of_length_eq_zero (by simpa using hz));rw[this,a0J];exact ⟨_,rfl,World.ownsRow_nil _ _ _ _⟩
  ·obtain ⟨g,o,rfl,hg,hcc⟩:=hc hL
   exact b2U L F g o cap w hl hg hLF hcc
 ·refine (b2y ao _ cap F w hLF).mono ?_
  rintro e w' ⟨rfl,rfl⟩;refine ⟨?_,Below.refl _ _⟩;rw[a1c _ _ _ _ _ (by simpa using hLF)]
  rfl
theorem a7K (s:ByteArray) (c:Int) (w:World) (hs:s.size<=2000):
    Calls prog 163 #[.string s,.int .u8 c] w fun e w'=>e=.returned (.int .i64 (Pn.cnt s c s.size))/\w'=w:=by
 have hBq:=a9J s;go_enter func163,ntmps163;go_wp2_with fail;go_loop [5,6] (fun n i=>∃k:Nat,k<=s.size/\i=.int .i64 k/\n=.int .i64 (Pn.cnt s c k)) (fun _ i=>s.size-(intOf i).toNat)
 case atStart=>exact ⟨0,by omega,rfl,rfl⟩
 case round=>
  obtain ⟨k,hk,rfl,rfl⟩:=hrel;have hb:=a4z s c k;by_cases hlt:k<s.size
  ·by_cases hc:(((Pn.B s k).toNat:Int)==c)=true
   ·have HS:=a0a (c3l hc)
    generalize hN:Pn.cnt s c k=N at *;have HN:=a0a hN;clear hN;go_wp2_with fail;go_round;(case rel=>exact ⟨k+1,by omega,by go_num,by rw[a0b HS]⟩);case measure=>simp[intOf];omega
   ·have hc':(((Pn.B s k).toNat:Int)==c)=false:=by simpa using hc
    clear hc;have HS:=a0a (c58 hc');generalize hN:Pn.cnt s c k=N at *;have HN:=a0a hN;clear hN;go_wp2_with fail;go_round;(case rel=>exact ⟨k+1,by omega,by go_num,by rw[a0b HS]⟩);case measure=>simp[intOf];omega
  ·have hke:k=s.size:=by omega
   go_wp2_with fail;go_ret;exact ⟨rfl,rfl⟩
