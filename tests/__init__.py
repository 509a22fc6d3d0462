"""The tests of Endsum."""
