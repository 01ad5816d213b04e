"""The tests of lightrules; README.md says how to run them."""
