/- The library contracts that the walks call, laid over this dump. -/
import Derived.Test.YthnhjhlinlhflaaGreatDoorA0
import Derived.Shelf.Strings.OnBuilder
import Derived.Shelf.Small.Strs
import Derived.Shelf.Small.Wraps
import Derived.Shelf.Utf8.RuneCount
import Derived.Shelf.Strconv.Itoa4
import Derived.Shelf.Strconv.ErrVarParseInt
import Derived.Shelf.Unicode.Decode
import Derived.Shelf.Strings.RuneCount
import Derived.Shelf.Unicode.DecodeAny
import Derived.Shelf.Slices.Clone
import Derived.Shelf.Slices.SearchI
import Derived.Shelf.SlicesE.Clone
import Derived.Test.YthnhjhlinlhflaaGreatDoorProg
set_option linter.all false
set_option maxRecDepth 100000
namespace Go.Proofs
open _root_.Go.Proofs.Tryz
open Go.Shelf
theorem ww{p:Prop}(h:p:=by kernel_rfl):p:=h
theorem Zq{α:Type}{a c:α}{o:Option α}(h:o=some a)(e:a=c:=by kernel_rfl):o=some c:=h.trans (congrArg some e)
def laysC174_ren:Go.Shelf.Ren:=⟨fun|174=>243|247=>280|245=>281|287=>299|279=>300|280=>301|281=>302|282=>303|321=>312|322=>313|316=>51|171=>315|205=>314|243=>321|246=>261|283=>286|284=>287|285=>288|286=>289|129=>273|317=>304|318=>305|319=>306|320=>307|337=>316|338=>317|n=>n,fun|9=>9|3=>3|2=>2|75=>361|85=>362|4=>4|167=>436|5=>5|53=>391|175=>437|46=>312|168=>439|37=>192|0=>0|210=>450|21=>21|127=>193|145=>457|143=>455|171=>415|173=>417|212=>443|51=>389|20=>20|213=>444|232=>458|233=>459|80=>425|n=>n,fun|15=>7|16=>8|17=>6|18=>9|19=>10|n=>n⟩
def laysC174:Go.Proofs.LaysC.n174 prog laysC174_ren:=⟨⟨⟨ww,Zq func273,Zq func315,Zq func243,Zq func314,Zq func321,Zq func281,Zq func261,Zq func280,Zq func300,Zq func301,Zq func302,Zq func303,Zq func286,Zq func287,Zq func288,Zq func289,Zq func299,Zq func51,Zq func304,Zq func305,Zq func306,Zq func307,Zq func312,Zq func313,Zq func316,Zq func317,underlying0,isAgg0,sizeOf0,zeroValue0,underlying2,isAgg2,sizeOf2,zeroValue2,underlying3,isAgg3,sizeOf3,zeroValue3,underlying4,isAgg4,sizeOf4,zeroValue4,underlying5,isAgg5,sizeOf5,zeroValue5,underlying9,isAgg9,sizeOf9,zeroValue9,underlying20,isAgg20,sizeOf20,zeroValue20,underlying21,isAgg21,sizeOf21,zeroValue21,underlying192,isAgg192,sizeOf192,zeroValue192,underlying312,isAgg312,sizeOf312,zeroValue312,underlying389,isAgg389,sizeOf389,zeroValue389,underlying391,isAgg391,sizeOf391,zeroValue391,underlying361,isAgg361,sizeOf361,zeroValue361,underlying362,isAgg362,sizeOf362,zeroValue362,underlying193,isAgg193,sizeOf193,zeroValue193,underlying455,isAgg455,sizeOf455,zeroValue455,underlying457,isAgg457,sizeOf457,zeroValue457,underlying436,isAgg436,sizeOf436,zeroValue436,underlying439,isAgg439,sizeOf439,zeroValue439,underlying415,isAgg415,sizeOf415,zeroValue415,underlying417,isAgg417,sizeOf417,zeroValue417,underlying437,isAgg437,sizeOf437,zeroValue437,underlying450,isAgg450,sizeOf450,zeroValue450,underlying443,isAgg443,sizeOf443,zeroValue443,underlying444,isAgg444,sizeOf444,underlying458,isAgg458,sizeOf458,zeroValue458,underlying459,isAgg459,sizeOf459,zeroValue459,ww,ww,ww,ww,ww⟩,underlying425,isAgg425,sizeOf425,zeroValue425,ww,ww,ww,ww,ww,ww,ww,ww,ww,ww,ww,ww,ww,ww,ww,ww,ww,ww,ww,ww,ww,ww,ww,ww,ww,ww,ww,ww,ww,ww,ww,ww⟩,ww,ww,ww,ww,ww,ww,ww,ww,ww,ww,ww,ww,ww,ww,ww,ww,ww,ww,ww,ww,ww,ww,ww,ww,ww,ww,ww,ww⟩
open Go.RowKit in
def strconv_ParseInt_10_at64_ok(s:ByteArray)(a:s.size<=9223372036854775806)(v:Int)(h:Lib.parseIntB 64 s.data.toList=.ok v)(w:World):
 Calls prog 243 #[.string s,.int .i64 10,.int .i64 64] w fun e b=>e=.returned (.tuple #[.int .i64 v,.nilIface])/\(b=w\/∃t,b=Lib.bytesWorld w 5 t):=Any.strconv_ParseInt_10_at64_ok laysC174 s a v h w
open Go.RowKit in
def strconv_ParseInt_10_at64_range(s:ByteArray)(b:s.size<=281474976710656)(h:Lib.parseIntB 64 s.data.toList=.range)(a:Value)(w:World)(g:w.cell? ⟨8,0,none⟩=some a)(c:a=.nilIface\/∃f i,a=.iface f i):
 Calls prog 243 #[.string s,.int .i64 10,.int .i64 64] w fun e d=>∃N,e=.returned (.tuple #[.int .i64 (Lib.intSat 64 s.data.toList),.iface 439 (.pointer (some ⟨N,0,none⟩))])/\w.heap.size<=N/\d.heap[N]?=some (.cells #[.string ⟨#[80,97,114,115,101,73,110,116]⟩,.string s,a] 450 (0,0))/\Below w.heap.size w d:=Any.strconv_ParseInt_10_at64_range laysC174 s b h a w g c
def lays197_ren:Go.Shelf.Ren:=⟨fun|197=>138|260=>188|n=>n,fun|9=>9|21=>21|3=>3|4=>4|5=>5|105=>250|119=>356|0=>0|46=>312|139=>359|138=>358|n=>n,fun|3=>1|4=>2|n=>n⟩
def lays197:Go.Proofs.Lays.n197 prog lays197_ren:=⟨ww,Zq func138,Zq func188,underlying0,isAgg0,sizeOf0,zeroValue0,underlying3,isAgg3,sizeOf3,zeroValue3,underlying4,isAgg4,sizeOf4,zeroValue4,underlying5,isAgg5,sizeOf5,zeroValue5,underlying9,isAgg9,sizeOf9,zeroValue9,underlying21,isAgg21,sizeOf21,zeroValue21,underlying312,isAgg312,sizeOf312,zeroValue312,underlying250,isAgg250,sizeOf250,zeroValue250,underlying356,isAgg356,sizeOf356,underlying358,isAgg358,sizeOf358,zeroValue358,underlying359,isAgg359,sizeOf359,zeroValue359,ww,ww⟩
open Go.RowKit Go.Lib in
def utf8_DecodeRuneInString(s:ByteArray)(w:World)(b:Lib.Utf8Tabs 1 2 w):
 Calls prog 138 #[.string s] w fun e a=>e=.returned (.tuple #[.int .i32 (Lib.decodeGo s).1,.int .i64 (Lib.decodeGo s).2])/\Below w.heap.size w a:=Any.utf8_DecodeRuneInString lays197 s w b
end Go.Proofs
namespace Go.Proofs
open _root_.Go.Proofs.Tryz
def lays156_ren:Go.Shelf.Ren:=⟨fun|156=>263|165=>290|166=>291|169=>292|240=>308|241=>309|276=>318|277=>319|n=>n,fun|31=>51|9=>9|3=>3|4=>4|0=>0|20=>20|72=>421|76=>423|70=>419|37=>192|75=>361|127=>193|164=>452|5=>5|80=>425|n=>n,fun|n=>n⟩
def lays156:Go.Proofs.Lays.n156 prog lays156_ren:=⟨ww,Zq func263,Zq func290,Zq func291,Zq func292,Zq func308,Zq func309,Zq func318,Zq func319,underlying0,isAgg0,sizeOf0,zeroValue0,underlying3,isAgg3,sizeOf3,zeroValue3,underlying4,isAgg4,sizeOf4,zeroValue4,underlying9,isAgg9,sizeOf9,zeroValue9,underlying20,isAgg20,sizeOf20,zeroValue20,underlying51,isAgg51,sizeOf51,zeroValue51,underlying192,isAgg192,sizeOf192,zeroValue192,underlying419,isAgg419,sizeOf419,zeroValue419,underlying421,isAgg421,sizeOf421,zeroValue421,underlying361,isAgg361,sizeOf361,zeroValue361,underlying423,isAgg423,sizeOf423,zeroValue423,underlying193,isAgg193,sizeOf193,zeroValue193,underlying452,isAgg452,sizeOf452,zeroValue452⟩
def Builder_Extra_156:Builder.Extra prog lays156_ren:={
 sizeBuilder:=by kernel_rfl
 liesBuilder:=by kernel_rfl
 t5:=underlying5
 a5:=isAgg5
 z5:=sizeOf5
 v5:=zeroValue5
 infoByte:=by kernel_rfl
 cellsByte:=by kernel_rfl
 sizeByte:=by kernel_rfl
 neB5:=by decide }
open Go.RowKit in
def strings_Join_none(a:Option Addr)(c:Nat)(b:ByteArray)(w:World):
 Calls prog 263 #[.slice a 0 c,.string b] w fun e d=>e=.returned (.string ⟨#[]⟩)/\d=w:=Any.strings_Join_none lays156 Builder_Extra_156 a c b w
open Go.RowKit in
def strings_Join(bk o c:Nat)(d:List ByteArray)(a:ByteArray)(w:World)(b:∀(j:Nat) x,d[j]?=some x->w.cell? ⟨bk,o+j,none⟩=some (.string x))(h:bk<w.heap.size)(k:d.length<=140737488355328)(f:d.length<=c)(g:(Lib.join (d.map (·.data.toList)) a.data.toList).length<=140737488355328):
 Calls prog 263 #[.slice (some ⟨bk,o,none⟩) d.length c,.string a] w fun e i=>e=.returned (.string ⟨(Lib.join (d.map (·.data.toList)) a.data.toList).toArray⟩)/\Below w.heap.size w i:=Any.strings_Join lays156 Builder_Extra_156 bk o c d a w b h k f g
def lays106_ren:Go.Shelf.Ren:=⟨fun|106=>173|213=>227|265=>274|n=>n,fun|9=>9|3=>3|n=>n,fun|n=>n⟩
def lays106:Go.Proofs.Lays.n106 prog lays106_ren:=⟨ww,Zq func173,Zq func227,Zq func274,underlying3,isAgg3,sizeOf3,zeroValue3,underlying9,isAgg9,sizeOf9,zeroValue9⟩
open Go.RowKit in
def strings_Compare(a b:ByteArray)(w:World):
 Calls prog 173 #[.string a,.string b] w fun e c=>e=.returned (.int .i64 (Lib.compareBytes a.data.toList b.data.toList))/\c=w:=Any.strings_Compare lays106 a b w
def lays121_ren:Go.Shelf.Ren:=⟨fun|121=>223|214=>262|n=>n,fun|4=>4|9=>9|n=>n,fun|n=>n⟩
def lays121:Go.Proofs.Lays.n121 prog lays121_ren:=⟨ww,Zq func223,Zq func262,underlying4,isAgg4,sizeOf4,zeroValue4,underlying9,isAgg9,sizeOf9,zeroValue9⟩
open Go.RowKit in
def strconv_FormatBool(b:Bool)(w:World):
 Calls prog 223 #[.bool b] w fun e a=>e=.returned (.string ⟨(Lib.formatBool b).toArray⟩)/\a=w:=Any.strconv_FormatBool lays121 b w
def lays195_ren:Go.Shelf.Ren:=⟨fun|195=>372|n=>n,fun|9=>9|3=>3|0=>0|4=>4|n=>n,fun|n=>n⟩
def lays195:Go.Proofs.Lays.n195 prog lays195_ren:=⟨ww,Zq func372,underlying0,isAgg0,sizeOf0,zeroValue0,underlying3,isAgg3,sizeOf3,zeroValue3,underlying4,isAgg4,sizeOf4,zeroValue4,underlying9,isAgg9,sizeOf9,zeroValue9⟩
open Go.RowKit in
def utf8_RuneCountInString(s:ByteArray)(w:World)(c:s.size<9223372036854775807):
 Calls prog 372 #[.string s] w fun e b=>e=.returned (.int .i64 (Lib.runeCount s))/\∃a,b=w.iter s a:=Any.utf8_RuneCountInString lays195 s w c
def laysM173_ren:Go.Shelf.Ren:=⟨fun|173=>222|246=>261|283=>286|284=>287|285=>288|286=>289|129=>273|317=>304|318=>305|319=>306|320=>307|337=>316|338=>317|n=>n,fun|2=>2|3=>3|9=>9|4=>4|171=>415|0=>0|53=>391|37=>192|5=>5|173=>417|212=>443|51=>389|20=>20|213=>444|46=>312|232=>458|233=>459|n=>n,fun|17=>6|18=>9|19=>10|n=>n⟩
def laysM173:Go.Proofs.LaysM.n173 prog laysM173_ren:=⟨⟨ww,Zq func273,Zq func222,Zq func261,Zq func286,Zq func287,Zq func288,Zq func289,Zq func304,Zq func305,Zq func306,Zq func307,Zq func316,Zq func317,underlying0,isAgg0,sizeOf0,zeroValue0,underlying2,isAgg2,sizeOf2,zeroValue2,underlying3,isAgg3,sizeOf3,zeroValue3,underlying4,isAgg4,sizeOf4,zeroValue4,underlying5,isAgg5,sizeOf5,zeroValue5,underlying9,isAgg9,sizeOf9,zeroValue9,underlying20,isAgg20,sizeOf20,zeroValue20,underlying192,isAgg192,sizeOf192,zeroValue192,underlying312,isAgg312,sizeOf312,zeroValue312,underlying389,isAgg389,sizeOf389,zeroValue389,underlying391,isAgg391,sizeOf391,zeroValue391,underlying415,isAgg415,sizeOf415,zeroValue415,underlying417,isAgg417,sizeOf417,zeroValue417,underlying443,isAgg443,sizeOf443,zeroValue443,underlying444,isAgg444,sizeOf444,underlying458,isAgg458,sizeOf458,zeroValue458,underlying459,isAgg459,sizeOf459,zeroValue459,ww,ww,ww⟩,ww,ww,ww,ww,ww,ww,ww,ww,ww,ww,ww,ww,ww,ww,ww,ww,ww,ww,ww⟩
open Go.RowKit Go.Sort Go.Lib in
def strconv_FormatInt_10(n:Int)(f: -9223372036854775808<=n)(d:n<=9223372036854775807)(w:World)(a:Lib.TabIs prog w "internal/strconv.uint64pow10" .u64 Lib.pow10Tab):
 Calls prog 222 #[.int .i64 n,.int .i64 10] w fun e b=>e=.returned (.string ⟨(Lib.itoa n).toArray⟩)/\∃k c,b=grow (w.drewN k) c:=Any.strconv_FormatInt_10 laysM173 n f d w a
end Go.Proofs
namespace Go.Proofs
open _root_.Go.Proofs.Tryz
def laysM316_ren:Go.Shelf.Ren:=⟨fun|316=>51|n=>n,fun|9=>9|3=>3|4=>4|37=>192|0=>0|127=>193|5=>5|n=>n,fun|n=>n⟩
def laysM316:Go.Proofs.LaysM.n316 prog laysM316_ren:=⟨⟨ww,Zq func51,underlying0,isAgg0,sizeOf0,zeroValue0,underlying3,isAgg3,sizeOf3,zeroValue3,underlying4,isAgg4,sizeOf4,zeroValue4,underlying9,isAgg9,sizeOf9,zeroValue9,underlying192,isAgg192,sizeOf192,zeroValue192,underlying193,isAgg193,sizeOf193,zeroValue193⟩,underlying5,isAgg5,sizeOf5,zeroValue5,ww,ww,ww,ww,ww,ww,ww⟩
open Go.RowKit in
def stringslite_Clone(s:ByteArray)(w:World)(a:s.size<=281474976710656):
 Calls prog 51 #[.string s] w fun e b=>e=.returned (.string s)/\Below w.heap.size w b:=Any.stringslite_Clone laysM316 s w a
end Go.Proofs
