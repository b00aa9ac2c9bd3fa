import importlib
import unittest

# The functions of the interface that have landed, by the module that defines them.
FUNCTIONS = {
    "archway.texts": (
        "fault_of", "check_text", "arches", "depths", "is_balanced", "children_of", "row_of",
    ),
    "archway.notation": ("format_text", "parse_text"),
    "archway.readers": ("fault", "value_behind", "value", "accepts"),
    "archway.joined": ("denied", "joint"),
    "archway.values": ("values", "numbered"),
    "archway.shortest": ("lengths", "text_of", "shortest", "together", "parting"),
    "archway.least": ("leaders", "least", "same_texts", "parting_context"),
    "archway.meaning": ("is_valid", "depth_of", "size_of", "holds"),
    "archway.parsing": ("read_sentence",),
}


class Interface(unittest.TestCase):
    def test_each_function_is_defined_in_its_file(self):
        for module, names in FUNCTIONS.items():
            for name in names:
                with self.subTest(module=module, name=name):
                    function = getattr(importlib.import_module(module), name)
                    self.assertEqual((function.__name__, function.__module__), (name, module))


if __name__ == "__main__":
    unittest.main()
