"""Files as an encoder of this kind makes them: what the tests' own writer knows may be wrong, these are not."""

import hashlib
import unittest

from losslook.pictures import look, read
from writer import GREATEST_MOST, NO_FILE

FILES = (
    # Greens, then predictions; three groups.
    (1, 301, (
        "5249464676000000574542505650384c6a0000002f00004b000d7521a2ffc11290a4c88a88d00281247fef6798ff098833380804"
        "92fcbd9f61fe2720cee0201048f2f77e86f99f8038838364db8617a29258884a62212a8985a82416a29258884a62212a8985a824"
        "16a29258884a62212a8985a82416a29258884a622102"
    )),
    # Predictions, then colours.
    (216, 144, (
        "5249464688000000574542505650384c7b0000002fd7c0230021802006fc276b88e87fea082008ffe11a22fa9f0a458d2429ede9"
        "fc4b384df763c631c836529d0eea9c8ee9df492090e4b43fc24e413669d33e503a79833be0aba5e8069e7783a1e806aaf00f3faa"
        "a26145febb54febb74295d2aff5d4a5413a69e1fbe632ec5c38afc77a9fc77e94aba54febb140000"
    )),
    # A table; two groups.
    (100, 100, (
        "5249464666000000574542505650384c590000002f63c018000ff019b3cf987dc66cfee38134011111b289642bd2e30e918014a4"
        "8134a42061c37b5ff8b31747f47f208404c404ff174be488fe0f0407161b0e16bc55354c766c569c0c50cd7854cd7854cd78544d"
        "1eafc9631300"
    )),
    # A table, as large as a picture may be; two groups.
    (1024, 1024, (
        "52494646b4000000574542505650384ca80000002fffc3ff000f30fff33ffff31f78bc0988885051db4692992ff4d502d8d79588"
        "fe2b6cdbb6c93aa09337084892feff2723fa5f8b394edf0400000000000000000000000000000058cb70fae6feef4efebb23ffdd"
        "91ffeec87f77e4bf3bf2df1df9ef8efc7747febb23ffdd91ffeec87f77e4bf3bf2df1df9ef8efc7707ffefe0ff1dfcbf83ff77f0"
        "ff0efedfc1ff3bf87f07ffefe0ff1dfcbf83ff77f0ff0efedf710777f0ff8e00"
    )),
    # Predictions; a cache of 32 colours; alphas.
    (64, 48, (
        "52494646ac020000574542505650384ca00200002f3fc00b10993244f43f2cbe5ddb9625499224feffdf3ef71231a03f30b431c2"
        "b227a2279dd08e31ffa1b06d1ba4b4ff0fc609f80a0f7eb92f7d7e995f7ffdf5cbfef5d75f9fcfe7cb6ff8c2faa2f7fb8b5fafd7"
        "97fcfcfc7ca9f3ed5bfffacb6898ef0d8dbc5edff1d7678bb9dd13b98dd5fbf5dce7af69308c764c4723044daff733fbd51a73bf"
        "cc7596fb68f9e989ff5b733dccf321d72d7f3ef6eb5c8e69ce3d94b3895cf6f3c8e7af86b91cccb3412e437bbd1ff8d534e760ce"
        "3d9033c8d9e4e7eeaf613098731ecf1904a1d7cdaf2ee7729873962567c8652e7faefe62076ba631a6399b88262d97f1ba597618"
        "8cb1e6be450439b3aef6c1dac160ccda4d4b04b96ce11dfe6a2e7730c39a07b4905ce6b2bdf05976b0c330b366d29290339759ef"
        "c36407736eb0b92e28672e3379f371bb06639a0d26284d042db7ef238365b036c6e62ca2166441768c79745836664389b29047a3"
        "e37ece656b6637492bcbd98da76e87b1cda654843c1fec89b9ddb68f7795db9e084657bbea98619f8ff73ba463575d8dfcf26357"
        "5ded48e8fdf6f90cb3a3ab5d75a0abdb8eb3eaedb36d6e7775bb23cf87a894cd3686f9ce87ba686a49856d666ddac59eeae60c4d"
        "911b63d3308fee78331d4dd08a28e7c6d81a4c3ba69beb164496820c36cb18ac79f42d93cb9c05e57a83cd3997935d35b9cc1992"
        "96cc9a19e6dcc1b4e3b55ce632a125d7b386d9c10ed6d11b2d9741a43dd08cc10ed6dcbf3439838896fb35c66087690fc8654b16"
        "9175b18cb1ccdac1dcffb8cc65c899a6997398cb1d8fbe4210e4cce3730e067bcc8f2c6790b307e61cccb9eca1f76b2197419e1d"
        "cce5b01ef293cbc872f6d09ccb986ffd53cb75c8f3c35caf3dd58f16b96fba99e67eac79fefdca82100b32580c83e53bbcde3572"
        "9bc7e776b4f9d6d74b2ce47b87c53c0c"
    )),
)

# Of the bytes that another reader makes of each, with alphas of 255 where they don't count.
DIGESTS = (
    "7bf0f8f9b66ecc4c81d3c4d399b2d067926edc327ac7b3608019f205fc56b255",
    "5af3cf46b652c3c6a8fa90ef07543c9513b34d8a07014627ab9506208dad72d4",
    "c6ea05c317a013138fbcf0b8fc0165b1bdf97ebeedc830eb23d4c9375ffa30e6",
    "d785c9c05230e38c0015b4389a2301ab391bb605e56d251a2ed2b5024d9e2458",
    "0dd26159649e42b5645b5603ee21c2442975b76a160c0b75f12445b2c756f40c",
)


class Files(unittest.TestCase):
    def test_each(self):
        for width, height, text in FILES:
            self.assertEqual(look(0, list(bytes.fromhex(text))), [0, width, height])

    def test_the_bytes_of_each(self):
        for (width, height, text), digest in zip(FILES, DIGESTS, strict=True):
            answer = read(GREATEST_MOST, list(bytes.fromhex(text)))
            self.assertEqual(answer[0], 4 * width * height)
            self.assertEqual(hashlib.sha256(bytes(answer[1:])).hexdigest(), digest)

    def test_each_cut_short(self):
        for width, height, text in FILES:
            data = list(bytes.fromhex(text))
            for cut in range(len(data)):
                self.assertEqual(look(0, data[:cut]), NO_FILE)


if __name__ == "__main__":
    unittest.main()
